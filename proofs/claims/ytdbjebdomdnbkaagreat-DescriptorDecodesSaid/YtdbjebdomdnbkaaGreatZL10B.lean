/- Merged texts. -/
import Derived.Test.YtdbjebdomdnbkaaGreatZL09B
import Derived.Test.YtdbjebdomdnbkaaGreatZL06
namespace Go.Proofs.YtdbjebdomdnbkaaGreat
open Go.ChangeShapes Go.WideShapes Go.ChangeAt Go.RowKit
set_option linter.unusedVariables false
set_option linter.unusedSimpArgs false
set_option maxHeartbeats 4000000
set_option maxRecDepth 100000
theorem lT (a b : List Int) (n m : Nat) (ha : List.length a = n * 2) (hb : List.length b = m * 2) (h3 : n ≤ 9223372036854775807) (h4 : m ≤ 9223372036854775807) : Fun 77 [.agg [.d (D.sl (dI .i64 a) n)], .agg [.d (D.sl (dI .i64 b) m)]] (kD []) 0 (kP (D.lit (.bool (wA a b)))) (kD []) 0 := by
 refine Fun.mk (n := 31) Tryz.func77 rfl rfl (Nat.le_of_ble_eq_true rfl) ?_
 intro cx hcx
 refine kG [.no, .no, .no] True [(2, rV 0 0), (3, rV 1 0)] [(0, some (50, .ds [dl a n])), (1, some (50, .ds [dl b m]))] 2 trivial ?_
 refine AW.seq ?_
 by_cases hx1 : (((n : Nat) : Int) ≠ ((m : Nat) : Int))
 ·refine kV (kJ 6 [.b true]) (((n : Int) ≠ (m : Int))) [(2, rV 0 0), (3, rV 1 0), (12, bV true)] zo ?_
  refine zt ?_
  refine kG [.no] True [(4, bV false)] [] 2 trivial ?_
  refine AW.ret ?_
  exact kB (.inr rfl) [] (P := ((wA a b) = false)) zk (by exact u51 ha hb zo)
 ·refine kV (kJ 6 [.b false]) (¬ ((n : Int) ≠ (m : Int))) [(2, rV 0 0), (3, rV 1 0), (12, bV false)] zo ?_
  refine uM ?_
  refine AW.seq ?_
  refine kV (kJ 4 []) True [(2, rV 0 0), (3, rV 1 0), (15, uV n), (16, iV 0)] trivial ?_
  refine AW.block ?_
  refine kU 0 hcx (fun (x : {x : Nat // match x with | k => (k ≤ n) ∧ (∀ j, j < k → List.getD a (j * 2) 0 = List.getD b (j * 2) 0 ∧ List.getD a (j * 2 + 1) 0 = List.getD b (j * 2 + 1) 0)}) => match x with | ⟨k, _⟩ => (⟨[(2, rV 0 0), (3, rV 1 0), (15, uV n), (16, uV k)], [(0, some (50, .ds [dl a n])), (1, some (50, .ds [dl b m]))], 2⟩ : ES)) (fun x => match x with | ⟨k, _⟩ => n - k) ⟨(0 : Nat), ⟨zo, (fun j hj => absurd hj (Nat.not_lt_zero j))⟩⟩ [] (P := (kQ 0) ∧ (kQ 0) ∧ (kM (n : Int)) ∧ (kM 0) ∧ (kY [dl a n]) ∧ (kY [dl b m])) zk ⟨rfl, rfl, rfl, rfl, rfl, rfl⟩ ?_
  rintro ⟨k, hinv0⟩
  obtain ⟨hk, hq⟩ : (k ≤ n) ∧ (∀ j, j < k → List.getD a (j * 2) 0 = List.getD b (j * 2) 0 ∧ List.getD a (j * 2 + 1) 0 = List.getD b (j * 2 + 1) 0) := hinv0
  refine qV (l := [(2, rV 0 0), (3, rV 1 0), (15, uV n), (16, uV k)]) (g := [(0, some (50, .ds [dl a n])), (1, some (50, .ds [dl b m]))]) (nx := 2) rfl rfl rfl ?_
  by_cases hx2 : (((k : Nat) : Int) < ((n : Nat) : Int))
  ·refine kG [.b true] (((k : Int) < (n : Int))) [(2, rV 0 0), (3, rV 1 0), (15, uV n), (16, uV k), (17, bV true)] [(0, some (50, .ds [dl a n])), (1, some (50, .ds [dl b m]))] 2 zo ?_
   refine AW.seq ?_
   refine u1 ?_
   refine AW.seq ?_
   refine AW.block ?_
   refine kV [.no, .no] True [(2, rV 0 0), (3, rV 1 0), (5, uV k), (15, uV n), (16, uV k)] trivial ?_
   by_cases hx3 : (((List.getD a (k * 2) 0) = (List.getD b (k * 2) 0)) ∧ ((List.getD a ((k * 2) + 1) 0) = (List.getD b ((k * 2) + 1) 0)))
   ·refine kV [.no, .no, .no, .n k, .ds [iD (List.getD a (k * 2) 0), iD (List.getD a ((k * 2) + 1) 0)], .no, .no, .no, .n k, .ds [iD (List.getD b (k * 2) 0), iD (List.getD b ((k * 2) + 1) 0)], .b false] ((kM (k : Int)) ∧ (k < n) ∧ (List.take 2 (List.drop (k * 2) (dI .i64 a)) = [iD (List.getD a (k * 2) 0), iD (List.getD a ((k * 2) + 1) 0)]) ∧ (([iD (List.getD a (k * 2) 0), iD (List.getD a ((k * 2) + 1) 0)] : List D).length = 2) ∧ (kM (k : Int)) ∧ (k < m) ∧ (List.take 2 (List.drop (k * 2) (dI .i64 b)) = [iD (List.getD b (k * 2) 0), iD (List.getD b ((k * 2) + 1) 0)]) ∧ (([iD (List.getD b (k * 2) 0), iD (List.getD b ((k * 2) + 1) 0)] : List D).length = 2) ∧ ((((List.getD a (k * 2) 0) = (List.getD b (k * 2) 0)) ∧ ((List.getD a ((k * 2) + 1) 0) = (List.getD b ((k * 2) + 1) 0))))) [(2, rV 0 0), (3, rV 1 0), (15, uV n), (16, uV k), (29, bV false)] ⟨rfl, zo, (aH .i64 a (k * 2) 2 zo), rfl, rfl, zo, (aH .i64 b (k * 2) 2 zo), rfl, ⟨zo, zo⟩⟩ ?_
    refine uM ?_
    refine uG [.w, .no] (qB ((k : Int) + 1)) [(2, rV 0 0), (3, rV 1 0), (15, uV n), (16, iV (↑k + 1))] ⟨by omega, by omega⟩ ?_
    exact qH ⟨((k + 1) : Nat), ⟨zo, (fun j hj => (Nat.lt_succ_iff_lt_or_eq.1 hj).elim (hq j) (fun e9 => by subst e9; omega))⟩⟩ [] (P := (kQ 0) ∧ (kQ 0) ∧ (kM (n : Int)) ∧ (((((k + 1) : Nat) : Int) : Int) = ((k : Int) + 1)) ∧ (kY [dl a n]) ∧ (kY [dl b m])) zk ⟨rfl, rfl, rfl, (by rfl), rfl, rfl⟩ (show n - (k + 1) < n - k from zo)
   ·refine kV [.no, .no, .no, .n k, .ds [iD (List.getD a (k * 2) 0), iD (List.getD a ((k * 2) + 1) 0)], .no, .no, .no, .n k, .ds [iD (List.getD b (k * 2) 0), iD (List.getD b ((k * 2) + 1) 0)], .b true] ((kM (k : Int)) ∧ (k < n) ∧ (List.take 2 (List.drop (k * 2) (dI .i64 a)) = [iD (List.getD a (k * 2) 0), iD (List.getD a ((k * 2) + 1) 0)]) ∧ (([iD (List.getD a (k * 2) 0), iD (List.getD a ((k * 2) + 1) 0)] : List D).length = 2) ∧ (kM (k : Int)) ∧ (k < m) ∧ (List.take 2 (List.drop (k * 2) (dI .i64 b)) = [iD (List.getD b (k * 2) 0), iD (List.getD b ((k * 2) + 1) 0)]) ∧ (([iD (List.getD b (k * 2) 0), iD (List.getD b ((k * 2) + 1) 0)] : List D).length = 2) ∧ (¬ (((List.getD a (k * 2) 0) = (List.getD b (k * 2) 0)) ∧ ((List.getD a ((k * 2) + 1) 0) = (List.getD b ((k * 2) + 1) 0))))) [(2, rV 0 0), (3, rV 1 0), (15, uV n), (16, uV k), (29, bV true)] ⟨rfl, zo, (aH .i64 a (k * 2) 2 zo), rfl, rfl, zo, (aH .i64 b (k * 2) 2 zo), rfl, zo⟩ ?_
    refine zt ?_
    refine kG [.no] True [(4, bV false)] [] 2 trivial ?_
    refine AW.ret ?_
    exact kB (.inr rfl) [] (P := ((wA a b) = false)) zk (by exact u50 (k := k) zo)
  ·refine kG [.b false] (¬ ((k : Int) < (n : Int))) [(2, rV 0 0), (3, rV 1 0), (15, uV n), (16, uV k), (17, bV false)] [(0, some (50, .ds [dl a n])), (1, some (50, .ds [dl b m]))] 2 zo ?_
   refine AW.seq ?_
   refine zf ?_
   refine AW.exit ?_
   refine kG [.no] True [(4, bV true)] [] 2 trivial ?_
   refine AW.ret ?_
   exact kB (.inr rfl) [] (P := ((wA a b) = true)) zk (by exact u4z ha hb zo (fun j hj => hq j zo))
end Go.Proofs.YtdbjebdomdnbkaaGreat
namespace Go.Proofs.YtdbjebdomdnbkaaGreat
open Go.ChangeShapes Go.WideShapes Go.ChangeAt Go.RowKit
set_option linter.unusedVariables false
set_option linter.unusedSimpArgs false
/-! chapter 10: how choices are compared -/
structure Cmp {α : Type} (f : α → α → Int) : Prop where
 anti : ∀ a b, f a b = - f b a
 tr : ∀ a b c, f a b ≤ 0 → f b c ≤ 0 → f a c ≤ 0
theorem Cmp.zero {α : Type} {f : α → α → Int} (h : Cmp f) (a : α) : f a a = 0 := by
 have := h.anti a a; omega
def orV (a b : Int) : Int := if a = 0 then b else a
def cmV (a b : Int) : Int := if a < b then -1 else if a = b then 0 else 1
def fsV (p q : Bool) : Int := if p = q then 0 else if p = true then -1 else 1
def lxV : List Int → List Int → Int
 | [], [] => 0
 | [], _ :: _ => -1
 | _ :: _, [] => 1
 | a :: r, b :: s => orV (cmV a b) (lxV r s)
def awV (a b : Int) : Int := if a > b then a - b else b - a
def nrV (w a b : Int) : Int := orV (cmV (awV w a) (awV w b)) (cmV a b)
def kdV (w a b : Int) : Int := orV (fsV (decide (a = w)) (decide (b = w))) (cmV b a)
def cnC (w m : List Int) : Int := ((coL w m (List.length m)).length : Int)
def mpV (w a b : List Int) : Int := orV (fsV (cS a w) (cS b w)) (orV (cmV (cnC w b) (cnC w a)) (orV (cmV (a.length : Int) (b.length : Int)) (lxV a b)))
structure Co where
 k : Int
 r : Int
 m : List Int
 s : Int
def coV (w a b : Co) : Int := orV (kdV w.k a.k b.k) (orV (nrV w.r a.r b.r) (orV (mpV w.m a.m b.m) (nrV w.s a.s b.s)))
def coK (wk wr wz ak ar az bk br bz : Int) (w a b : List Int) : Int := orV (kdV wk ak bk) (orV (nrV wr ar br) (orV (mpV w a b) (nrV wz az bz)))
end Go.Proofs.YtdbjebdomdnbkaaGreat
namespace Go.Proofs.YtdbjebdomdnbkaaGreat
open Go.ChangeShapes Go.WideShapes Go.ChangeAt Go.RowKit
set_option linter.unusedVariables false
set_option linter.unusedSimpArgs false
/-! chapter 10: maps and boxes as data -/
set_option maxHeartbeats 4000000
set_option maxRecDepth 100000
def kW (xs : List (List Int)) : List D := xs.map fun l => D.sl (dI .i64 l) l.length
theorem qA (xs : List (List Int)) : List.length (kW xs) = List.length xs := by unfold kW; simp
theorem i5 (xs : List (List Int)) (l : List Int) (n : Nat) (h : l.length = n) : kW xs ++ [D.sl (dI .i64 l) n] = kW (xs ++ [l]) := by subst h; unfold kW; simp
theorem aF (xs : List (List Int)) (i : Nat) (h : i < xs.length) : (List.drop i (kW xs))[0]? = some (D.sl (dI .i64 (List.getD xs i [])) (List.getD xs i []).length) := by
 unfold kW
 rw [List.getElem?_drop, Nat.add_zero, List.getElem?_map, List.getElem?_eq_getElem h, List.getD_eq_getElem?_getD, List.getElem?_eq_getElem h]; rfl
theorem fN (xs : List (List Int)) (n : Nat) : List.take (n * 1) (List.drop (0 * 1) (kW xs)) = kW (List.take n xs) := by unfold kW; simp [List.map_take]
def MsW (xs : List (List Int)) : Prop := ∀ l ∈ xs, List.length l ≤ 1000000
theorem MsW.at {xs : List (List Int)} (h : MsW xs) (i : Nat) : List.length (List.getD xs i []) ≤ 1000000 := by
 rw [List.getD_eq_getElem?_getD]
 cases e : xs[i]? with
 | none => exact Nat.zero_le _
 | some l => exact h l (List.mem_of_getElem? e)
theorem MsW.nil : MsW [] := fun l h => by cases h
theorem MsW.snoc {xs : List (List Int)} {l : List Int} (h : MsW xs) (hl : List.length l ≤ 1000000) : MsW (xs ++ [l]) := fun m hm => (List.mem_append.1 hm).elim (h m) fun hm => by
 rw [List.mem_singleton.1 hm]; exact hl
theorem MsW.take {xs : List (List Int)} (h : MsW xs) (n : Nat) : MsW (List.take n xs) := fun m hm => h m (List.mem_of_mem_take hm)
def nI (xs : List (List Int)) (m : List Int) : Bool := decide (m ∈ xs)
theorem u6e {xs : List (List Int)} {m : List Int} {k : Nat} (hk : k < xs.length) (h : cS (List.getD xs k []) m = true) : nI xs m = true := by
 have e : List.getD xs k [] = xs[k] := by rw [List.getD_eq_getElem?_getD, List.getElem?_eq_getElem hk]; rfl
 have h1 := k2g h
 rw [e] at h1
 exact decide_eq_true (h1 ▸ List.getElem_mem hk)
theorem u6f {xs : List (List Int)} {m : List Int} (h : ∀ j, j < xs.length → cS (List.getD xs j []) m = false) : nI xs m = false := by
 refine decide_eq_false fun hm => ?_
 obtain ⟨j, hj, e⟩ := List.mem_iff_getElem.1 hm
 have h1 := k2e (h j hj)
 have e1 : List.getD xs j [] = xs[j] := by rw [List.getD_eq_getElem?_getD, List.getElem?_eq_getElem hj]; rfl
 exact h1 (by rw [e1, e])
def zD (xs : List (List Int)) (i : Nat) : Bool := fG (List.getD xs i []) (List.getD xs i []).length && !(nI (List.take i xs) (List.getD xs i []))
def rP (xs : List (List Int)) : Bool := decide (1 ≤ xs.length ∧ xs.length ≤ 16 ∧ ∀ i, i < xs.length → zD xs i = true)
theorem u1o {xs : List (List Int)} (h1 : 1 ≤ xs.length) (h2 : xs.length ≤ 16) (h : ∀ i, i < xs.length → zD xs i = true) : rP xs = true := decide_eq_true ⟨h1, h2, h⟩
theorem k79 {xs : List (List Int)} {k : Nat} (hk : k < xs.length) (h : zD xs k = false) : rP xs = false := decide_eq_false fun h1 => by
 have := h1.2.2 k hk; rw [h] at this; cases this
theorem k78 {xs : List (List Int)} (h : xs.length < 1 ∨ 16 < xs.length) : rP xs = false := decide_eq_false fun h1 => by omega
theorem k23 {xs : List (List Int)} {i : Nat} (h1 : fG (List.getD xs i []) (List.getD xs i []).length = true) (h2 : nI (List.take i xs) (List.getD xs i []) = false) : zD xs i = true := by unfold zD; rw [h1, h2]; rfl
theorem k9s {xs : List (List Int)} {i : Nat} (h1 : fG (List.getD xs i []) (List.getD xs i []).length = false) : zD xs i = false := by unfold zD; rw [h1]; rfl
theorem k9r {xs : List (List Int)} {i : Nat} (h2 : nI (List.take i xs) (List.getD xs i []) = true) : zD xs i = false := by unfold zD; rw [h2]; cases fG (List.getD xs i []) (List.getD xs i []).length <;> rfl
def d8 (l : List Int) (n : Nat) (lo hi : Int) : Bool := fF l n && decide (1 ≤ n ∧ lo ≤ List.getD l 0 0 ∧ List.getD l ((n - 1) * 2 + 1) 0 ≤ hi)
theorem u1n {l : List Int} {n : Nat} {lo hi : Int} (h : fF l n = true) (h2 : 1 ≤ n ∧ lo ≤ List.getD l 0 0 ∧ List.getD l ((n - 1) * 2 + 1) 0 ≤ hi) : d8 l n lo hi = true := by unfold d8; rw [h, decide_eq_true h2]; rfl
theorem u4a {l : List Int} {n : Nat} {lo hi : Int} (h : fF l n = false) : d8 l n lo hi = false := by unfold d8; rw [h]; rfl
theorem k0r {l : List Int} {n : Nat} {lo hi : Int} (h2 : ¬ (1 ≤ n ∧ lo ≤ List.getD l 0 0 ∧ List.getD l ((n - 1) * 2 + 1) 0 ≤ hi)) : d8 l n lo hi = false := by unfold d8; rw [decide_eq_false h2]; cases fF l n <;> rfl
structure Bx where
 k : Int
 r : List Int
 rn : Nat
 m : List (List Int)
 s : List Int
 sn : Nat
def bx0 : Bx := ⟨0, [], 0, [], [], 0⟩
def bxR (b : Bx) : List D := [D.lit (.int .i64 b.k), D.sl (dI .i64 b.r) b.rn, D.sl (kW b.m) b.m.length, D.sl (dI .i64 b.s) b.sn]
def kX : List Bx → List D
 | [] => []
 | b :: r => bxR b ++ kX r
theorem k8 : ∀ xs : List Bx, List.length (kX xs) = List.length xs * 4
 | [] => rfl
 | b :: r => by show List.length (bxR b ++ kX r) = (List.length r + 1) * 4; rw [List.length_append, k8 r]; show 4 + _ = _; omega
theorem k0i : ∀ a b : List Bx, kX (a ++ b) = kX a ++ kX b
 | [], _ => rfl
 | l :: r, b => by show bxR l ++ kX (r ++ b) = bxR l ++ kX r ++ kX b; rw [k0i r b, List.append_assoc]
theorem tT : ∀ (i : Nat) (xs : List Bx), List.drop (i * 4) (kX xs) = kX (List.drop i xs)
 | 0, _ => rfl
 | i + 1, [] => by simp [kX]
 | i + 1, l :: r => by
  show List.drop ((i + 1) * 4) (bxR l ++ kX r) = kX (List.drop i r)
  rw [show (i + 1) * 4 = 4 + i * 4 by omega, ← List.drop_drop, ← tT i r]; rfl
def iB (xs : List Bx) (i : Nat) : Bx := List.getD xs i bx0
def vU (xs : List Bx) (i : Nat) : Int := (iB xs i).k
def aE (xs : List Bx) (i : Nat) : List Int := (iB xs i).r
def yJ (xs : List Bx) (i : Nat) : Nat := (iB xs i).rn
def qD (xs : List Bx) (i : Nat) : List (List Int) := (iB xs i).m
def cH (xs : List Bx) (i : Nat) : List Int := (iB xs i).s
def aA (xs : List Bx) (i : Nat) : Nat := (iB xs i).sn
theorem k9a {xs : List Bx} {i : Nat} (h : i < List.length xs) : kX (List.drop i xs) = bxR (iB xs i) ++ kX (List.drop (i + 1) xs) := by
 have e : iB xs i = xs[i] := by unfold iB; rw [List.getD_eq_getElem?_getD, List.getElem?_eq_getElem h]; rfl
 rw [List.drop_eq_getElem_cons h, e]; rfl
theorem f9 {xs : List Bx} {i : Nat} (h : i < List.length xs) : List.take 4 (List.drop (i * 4) (kX xs)) = [D.lit (.int .i64 (vU xs i)), D.sl (dI .i64 (aE xs i)) (yJ xs i), D.sl (kW (qD xs i)) (List.length (qD xs i)), D.sl (dI .i64 (cH xs i)) (aA xs i)] := by
 rw [tT, k9a h]; rfl
def BxW (b : Bx) : Prop := List.length b.r = b.rn * 2 ∧ List.length b.s = b.sn * 2 ∧ b.rn ≤ 1000000 ∧ b.sn ≤ 1000000 ∧ List.length b.m ≤ 1000000 ∧ MsW b.m
def BsW (xs : List Bx) : Prop := ∀ b ∈ xs, BxW b
theorem u72 : BxW bx0 := ⟨rfl, rfl, Nat.zero_le _, Nat.zero_le _, Nat.zero_le _, MsW.nil⟩
theorem BsW.get {xs : List Bx} (h : BsW xs) (i : Nat) : BxW (iB xs i) := by
 unfold iB
 rw [List.getD_eq_getElem?_getD]
 cases e : xs[i]? with
 | none => exact u72
 | some l => exact h l (List.mem_of_getElem? e)
theorem BsW.at {xs : List Bx} (h : BsW xs) (i : Nat) : List.length (aE xs i) = yJ xs i * 2 ∧ List.length (cH xs i) = aA xs i * 2 ∧ yJ xs i ≤ 1000000 ∧ aA xs i ≤ 1000000 ∧ List.length (qD xs i) ≤ 1000000 := by
 have h1 := h.get i
 exact ⟨h1.1, h1.2.1, h1.2.2.1, h1.2.2.2.1, h1.2.2.2.2.1⟩
theorem cG {xs : List Bx} (h : BsW xs) (i : Nat) : MsW (qD xs i) := (h.get i).2.2.2.2.2
theorem BsW.take {xs : List Bx} (h : BsW xs) (n : Nat) : BsW (List.take n xs) := fun m hm => h m (List.mem_of_mem_take hm)
theorem BsW.drop {xs : List Bx} (h : BsW xs) (n : Nat) : BsW (List.drop n xs) := fun m hm => h m (List.mem_of_mem_drop hm)
theorem BsW.app {xs ys : List Bx} (h : BsW xs) (h2 : BsW ys) : BsW (xs ++ ys) := fun m hm => (List.mem_append.1 hm).elim (h m) (h2 m)
theorem BsW.nil : BsW [] := fun l h => by cases h
theorem BsW.one {b : Bx} (h : BxW b) : BsW [b] := fun m hm => by rw [List.mem_singleton.1 hm]; exact h
def dW (k : Int) : Int := qJ .andNot .i64 k 254
def odV (k : Int) : Int := qJ .and .i64 k 1
def kiB (k : Int) (q : Nat) : Bool := decide (1 ≤ q ∧ q ≤ 7 ∧ odV (k / ((2 ^ q : Nat) : Int)) = 1)
def dH (k : Int) (r : List Int) (rn : Nat) (m : List (List Int)) (s : List Int) (sn : Nat) : Bool := decide (¬ k = 0 ∧ dW k = 0) && (d8 r rn 1000 768000 && (rP m && d8 s sn 1 65536))
def vbE (xs : List Bx) (i : Nat) : Bool := dH (vU xs i) (aE xs i) (yJ xs i) (qD xs i) (cH xs i) (aA xs i)
def iP (xs : List Bx) : Bool := decide (xs.length ≤ 64 ∧ ∀ i, i < xs.length → vbE xs i = true)
theorem u1p {xs : List Bx} (h2 : xs.length ≤ 64) (h : ∀ i, i < xs.length → vbE xs i = true) : iP xs = true := decide_eq_true ⟨h2, h⟩
theorem u4m {xs : List Bx} {k : Nat} (hk : k < xs.length) (h : vbE xs k = false) : iP xs = false := decide_eq_false fun h1 => by
 have := h1.2 k hk; rw [h] at this; cases this
theorem u4l {xs : List Bx} (h : 64 < xs.length) : iP xs = false := decide_eq_false fun h1 => by omega
theorem u3m {k : Int} {r : List Int} {rn : Nat} {m : List (List Int)} {s : List Int} {sn : Nat} (h1 : ¬ k = 0 ∧ dW k = 0) (h2 : d8 r rn 1000 768000 = true) (h3 : rP m = true) (h4 : d8 s sn 1 65536 = true) : dH k r rn m s sn = true := by
 unfold dH; rw [h2, h3, h4, decide_eq_true h1]; rfl
theorem k99 {k : Int} {r : List Int} {rn : Nat} {m : List (List Int)} {s : List Int} {sn : Nat} (h1 : ¬ (¬ k = 0 ∧ dW k = 0)) : dH k r rn m s sn = false := by
 unfold dH; rw [decide_eq_false h1]; rfl
theorem u70 {k : Int} {r : List Int} {rn : Nat} {m : List (List Int)} {s : List Int} {sn : Nat} (h2 : d8 r rn 1000 768000 = false) : dH k r rn m s sn = false := by
 unfold dH; rw [h2, Bool.false_and, Bool.and_false]
theorem k65 {k : Int} {r : List Int} {rn : Nat} {m : List (List Int)} {s : List Int} {sn : Nat} (h3 : rP m = false) : dH k r rn m s sn = false := by
 unfold dH; rw [h3, Bool.false_and, Bool.and_false, Bool.and_false]
theorem u6z {k : Int} {r : List Int} {rn : Nat} {m : List (List Int)} {s : List Int} {sn : Nat} (h4 : d8 s sn 1 65536 = false) : dH k r rn m s sn = false := by
 unfold dH; rw [h4, Bool.and_false, Bool.and_false, Bool.and_false]
def bxL (xs : List Bx) : List Bx := if iP xs = true then xs else []
theorem u71 {xs : List Bx} (h : iP xs = true) : bxL xs = xs := if_pos h
theorem k6l (ms : List (List Int)) (c : Nat) (m : List Int) (n : Nat) (hc : List.length ms = c) (hn : List.length m = n) (h1 : c ≤ 1000000) (h2 : n ≤ 1000000) (hW : MsW ms) : Fun 87 [.c (.d (D.sl (kW ms) c)), .c (.d (D.sl (dI .i64 m) n))] (kD []) 0 (kP (D.lit (.bool (nI ms m)))) (kD []) 0 := by
 refine Fun.mk (n := 17) Tryz.func87 rfl rfl (Nat.le_of_ble_eq_true rfl) ?_
 intro cx hcx
 refine kG [.no] True [(0, qX (kW ms) c), (1, sV .i64 m n)] [] 0 trivial ?_
 refine AW.seq ?_
 refine kV [.no, .no, .no] True [(1, sV .i64 m n), (7, qX (kW ms) c), (8, uV c), (9, iV 0)] trivial ?_
 refine AW.block ?_
 refine kU 0 hcx (fun (x : {x : Nat // match x with | k => (k ≤ c) ∧ (∀ j, j < k → cS (List.getD ms j []) m = false)}) => match x with | ⟨k, _⟩ => (⟨[(1, sV .i64 m n), (7, qX (kW ms) c), (8, uV c), (9, uV k)], [], 0⟩ : ES)) (fun x => match x with | ⟨k, _⟩ => c - k) ⟨(0 : Nat), ⟨zo, (fun j hj => absurd hj (Nat.not_lt_zero j))⟩⟩ [] (P := (kY (dI .i64 m)) ∧ (kQ n) ∧ (kY (kW ms)) ∧ (kQ c) ∧ (kM (c : Int)) ∧ (kM 0)) zk ⟨rfl, rfl, rfl, rfl, rfl, rfl⟩ ?_
 rintro ⟨k, hinv0⟩
 obtain ⟨hk, ha⟩ : (k ≤ c) ∧ (∀ j, j < k → cS (List.getD ms j []) m = false) := hinv0
 refine qV (l := [(1, sV .i64 m n), (7, qX (kW ms) c), (8, uV c), (9, uV k)]) (g := []) (nx := 0) rfl rfl rfl ?_
 by_cases hx1 : (((k : Nat) : Int) < ((c : Nat) : Int))
 ·refine kG [.b true] (((k : Int) < (c : Int))) [(1, sV .i64 m n), (7, qX (kW ms) c), (8, uV c), (9, uV k), (10, bV true)] [] 0 zo ?_
  refine AW.seq ?_
  refine u1 ?_
  refine AW.seq ?_
  refine AW.block ?_
  have hx2 : ((List.length (List.getD ms k ([] : List Int))) ≤ 1000000) := MsW.at (kL : MsW ms) _
  refine kV [.n k, .d (dl (List.getD ms k ([] : List Int)) (List.length (List.getD ms k ([] : List Int)))), .no] ((kM (k : Int)) ∧ (k < c) ∧ ((List.drop k (kW ms))[0]? = some (dl (List.getD ms k ([] : List Int)) (List.length (List.getD ms k ([] : List Int)))))) [(1, sV .i64 m n), (6, sV .i64 (List.getD ms k ([] : List Int)) (List.length (List.getD ms k ([] : List Int)))), (7, qX (kW ms) c), (8, uV c), (9, uV k)] ⟨rfl, zo, (aF _ _ zo)⟩ ?_
  rcases Bool.eq_false_or_eq_true (cS (List.getD ms k ([] : List Int)) m) with hx3 | hx3
  ·refine kV [.no, .no, .call [] (bV true) [] 0 [] none] (Fun 78 [.c (.d (dl (List.getD ms k ([] : List Int)) (List.length (List.getD ms k ([] : List Int))))), .c (.d (dl m n))] (kD []) 0 (bV true) (kD []) 0) [(1, sV .i64 m n), (7, qX (kW ms) c), (8, uV c), (9, uV k), (15, bV true)] (by have h0 := (jB (List.getD ms k ([] : List Int)) m (List.length (List.getD ms k ([] : List Int))) n rfl zo zo zo); rw [hx3] at h0; exact h0) ?_
   refine zt ?_
   refine kV [.no] True [(4, bV true)] trivial ?_
   refine AW.ret ?_
   exact kB (.inr rfl) [] (P := ((nI ms m) = true)) zk (by exact u6e (k := k) zo (by assumption))
  ·refine kV [.no, .no, .call [] (bV false) [] 0 [] none] (Fun 78 [.c (.d (dl (List.getD ms k ([] : List Int)) (List.length (List.getD ms k ([] : List Int))))), .c (.d (dl m n))] (kD []) 0 (bV false) (kD []) 0) [(1, sV .i64 m n), (7, qX (kW ms) c), (8, uV c), (9, uV k), (15, bV false)] (by have h0 := (jB (List.getD ms k ([] : List Int)) m (List.length (List.getD ms k ([] : List Int))) n rfl zo zo zo); rw [hx3] at h0; exact h0) ?_
   refine uM ?_
   refine uG [.w, .no] (qB ((k : Int) + 1)) [(1, sV .i64 m n), (7, qX (kW ms) c), (8, uV c), (9, iV (↑k + 1))] ⟨by omega, by omega⟩ ?_
   exact qH ⟨((k + 1) : Nat), ⟨zo, (fun j hj => (Nat.lt_succ_iff_lt_or_eq.1 hj).elim (ha j) (fun e9 => by subst e9; assumption))⟩⟩ [] (P := (kY (dI .i64 m)) ∧ (kQ n) ∧ (kY (kW ms)) ∧ (kQ c) ∧ (kM (c : Int)) ∧ (((((k + 1) : Nat) : Int) : Int) = ((k : Int) + 1))) zk ⟨rfl, rfl, rfl, rfl, rfl, (by rfl)⟩ (show c - (k + 1) < c - k from zo)
 ·refine kG [.b false] (¬ ((k : Int) < (c : Int))) [(1, sV .i64 m n), (7, qX (kW ms) c), (8, uV c), (9, uV k), (10, bV false)] [] 0 zo ?_
  refine AW.seq ?_
  refine zf ?_
  refine AW.exit ?_
  refine kG [.no] True [(4, bV false)] [] 0 trivial ?_
  refine AW.ret ?_
  exact kB (.inr rfl) [] (P := ((nI ms m) = false)) zk (by exact u6f (fun j hj => ha j zo))
theorem bZ {p : Prop} (h : p := by (rw [List.drop_drop]; exact qN _ _ _ (by omega))) : p := h
theorem dX (l : List Int) (n : Nat) (lo hi : Int) (hl : List.length l = n * 2) (hb : n ≤ 1000000) : Fun 88 [.agg [.d (D.sl (dI .i64 l) n)], iE lo, iE hi] (kD []) 0 (kP (D.lit (.bool (d8 l n lo hi)))) (kD []) 0 := by
 refine Fun.mk (n := 37) Tryz.func88 rfl rfl (Nat.le_of_ble_eq_true rfl) ?_
 intro cx hcx
 refine kG [.no, .no] True [(1, iV lo), (2, iV hi), (3, rV 0 0)] [(0, some (50, .ds [dl l n]))] 1 trivial ?_
 refine kV (kJ 4 []) True [(1, iV lo), (2, iV hi), (3, rV 0 0), (7, uV n)] trivial ?_
 rcases Bool.eq_false_or_eq_true (fF l n) with hx1 | hx1
 ·by_cases hx2 : ((0 : Int) < ((n : Nat) : Int))
  ·by_cases hx3 : (lo ≤ (List.getD l 0 0))
   ·by_cases hx4 : ((List.getD l (((n - 1) * 2) + 1) 0) ≤ hi)
    ·refine kG (.no :: .call [] (bV true) [] 0 [] none :: .no :: .no :: .b true :: kJ 4 (.n 0 :: .no :: .d (D.lit (.int .i64 (List.getD l 0 0))) :: .no :: .b true :: kJ 5 [.w, .n (n - 1), .no, .d (D.lit (.int .i64 (List.getD l (((n - 1) * 2) + 1) 0))), .no, .b true, .no, .no])) ((Fun 99 [.agg [.d (dl l n)]] (kD []) 0 (bV true) (kD []) 0) ∧ (((0 : Int) < (n : Int))) ∧ (kM 0) ∧ ((0 : Nat) < n) ∧ ((List.drop 0 (List.drop 0 (dI .i64 l)))[0]? = some (D.lit (.int .i64 (List.getD l 0 0)))) ∧ ((lo ≤ (List.getD l 0 0))) ∧ (qB ((n : Int) - 1)) ∧ ((((n : Int) - 1) : Int) = (((n - 1) : Nat) : Int)) ∧ ((n - 1) < n) ∧ ((List.drop 1 (List.drop ((n - 1) * 2) (dI .i64 l)))[0]? = some (D.lit (.int .i64 (List.getD l (((n - 1) * 2) + 1) 0)))) ∧ (((List.getD l (((n - 1) * 2) + 1) 0) ≤ hi))) [(6, bV true)] [] 1 ⟨(by have h0 := (dY l n zo zo); rw [hx1] at h0; exact h0), zo, rfl, zo, bZ, zo, ⟨by omega, by omega⟩, zo, zo, bZ, zo⟩ ?_
     refine AW.ret ?_
     exact kB (.inr rfl) [] (P := ((d8 l n lo hi) = true)) zk (by exact u1n (by assumption) zo)
    ·refine kG (.no :: .call [] (bV true) [] 0 [] none :: .no :: .no :: .b true :: kJ 4 (.n 0 :: .no :: .d (D.lit (.int .i64 (List.getD l 0 0))) :: .no :: .b true :: kJ 5 [.w, .n (n - 1), .no, .d (D.lit (.int .i64 (List.getD l (((n - 1) * 2) + 1) 0))), .no, .b false, .no, .no])) ((Fun 99 [.agg [.d (dl l n)]] (kD []) 0 (bV true) (kD []) 0) ∧ (((0 : Int) < (n : Int))) ∧ (kM 0) ∧ ((0 : Nat) < n) ∧ ((List.drop 0 (List.drop 0 (dI .i64 l)))[0]? = some (D.lit (.int .i64 (List.getD l 0 0)))) ∧ ((lo ≤ (List.getD l 0 0))) ∧ (qB ((n : Int) - 1)) ∧ ((((n : Int) - 1) : Int) = (((n - 1) : Nat) : Int)) ∧ ((n - 1) < n) ∧ ((List.drop 1 (List.drop ((n - 1) * 2) (dI .i64 l)))[0]? = some (D.lit (.int .i64 (List.getD l (((n - 1) * 2) + 1) 0)))) ∧ (¬ ((List.getD l (((n - 1) * 2) + 1) 0) ≤ hi))) [(6, bV false)] [] 1 ⟨(by have h0 := (dY l n zo zo); rw [hx1] at h0; exact h0), zo, rfl, zo, bZ, zo, ⟨by omega, by omega⟩, zo, zo, bZ, zo⟩ ?_
     refine AW.ret ?_
     exact kB (.inr rfl) [] (P := ((d8 l n lo hi) = false)) zk (by exact k0r zo)
   ·refine kG (.no :: .call [] (bV true) [] 0 [] none :: .no :: .no :: .b true :: kJ 4 (.n 0 :: .no :: .d (D.lit (.int .i64 (List.getD l 0 0))) :: .no :: .b false :: kJ 4 [])) ((Fun 99 [.agg [.d (dl l n)]] (kD []) 0 (bV true) (kD []) 0) ∧ (((0 : Int) < (n : Int))) ∧ (kM 0) ∧ ((0 : Nat) < n) ∧ ((List.drop 0 (List.drop 0 (dI .i64 l)))[0]? = some (D.lit (.int .i64 (List.getD l 0 0)))) ∧ (¬ (lo ≤ (List.getD l 0 0)))) [(6, bV false)] [] 1 ⟨(by have h0 := (dY l n zo zo); rw [hx1] at h0; exact h0), zo, rfl, zo, bZ, zo⟩ ?_
    refine AW.ret ?_
    exact kB (.inr rfl) [] (P := ((d8 l n lo hi) = false)) zk (by exact k0r zo)
  ·refine kG (.no :: .call [] (bV true) [] 0 [] none :: .no :: .no :: .b false :: kJ 6 []) ((Fun 99 [.agg [.d (dl l n)]] (kD []) 0 (bV true) (kD []) 0) ∧ (¬ ((0 : Int) < (n : Int)))) [(6, bV false)] [] 1 ⟨(by have h0 := (dY l n zo zo); rw [hx1] at h0; exact h0), zo⟩ ?_
   refine AW.ret ?_
   exact kB (.inr rfl) [] (P := ((d8 l n lo hi) = false)) zk (by exact k0r zo)
 ·refine kG (.no :: .call [] (bV false) [] 0 [] none :: kJ 7 []) (Fun 99 [.agg [.d (dl l n)]] (kD []) 0 (bV false) (kD []) 0) [(6, bV false)] [] 1 (by have h0 := (dY l n zo zo); rw [hx1] at h0; exact h0) ?_
  refine AW.ret ?_
  exact kB (.inr rfl) [] (P := ((d8 l n lo hi) = false)) zk (by exact u4a (by assumption))
theorem iF (l : List Int) (n : Nat) (lo hi : Int) (hl : List.length l = n * 2) (hb : n ≤ 1000000) : Fun 84 [.agg [.d (D.sl (dI .i64 l) n)], iE lo, iE hi] (kD []) 0 (kP (D.lit (.bool (d8 l n lo hi)))) (kD []) 0 := by
 refine Fun.mk (n := 37) Tryz.func84 rfl rfl (Nat.le_of_ble_eq_true rfl) ?_
 intro cx hcx
 refine kG [.no, .no] True [(1, iV lo), (2, iV hi), (3, rV 0 0)] [(0, some (50, .ds [dl l n]))] 1 trivial ?_
 refine kV [.no, .no, .no, .w, .no] (qB ((n : Int) - 1)) [(1, iV lo), (2, iV hi), (3, rV 0 0), (7, iV (↑n - 1))] ⟨by omega, by omega⟩ ?_
 by_cases hx1 : ((0 : Int) ≤ (((n : Nat) : Int) - 1))
 ·rcases Bool.eq_false_or_eq_true (fF l n) with hx2 | hx2
  ·by_cases hx3 : (lo ≤ (List.getD l 0 0))
   ·by_cases hx4 : ((List.getD l (((n - 1) * 2) + 1) 0) ≤ hi)
    ·refine kG (.no :: .b true :: .no :: .no :: .call [] (bV true) [] 0 [] none :: kJ 4 (.n 0 :: .no :: .d (D.lit (.int .i64 (List.getD l 0 0))) :: .no :: .b true :: kJ 5 [.n (n - 1), .no, .d (D.lit (.int .i64 (List.getD l (((n - 1) * 2) + 1) 0))), .no, .b true, .no, .no])) ((((0 : Int) ≤ ((n : Int) - 1))) ∧ (Fun 95 [.agg [.d (dl l n)]] (kD []) 0 (bV true) (kD []) 0) ∧ (kM 0) ∧ ((0 : Nat) < n) ∧ ((List.drop 0 (List.drop 0 (dI .i64 l)))[0]? = some (D.lit (.int .i64 (List.getD l 0 0)))) ∧ ((lo ≤ (List.getD l 0 0))) ∧ ((((n : Int) - 1) : Int) = (((n - 1) : Nat) : Int)) ∧ ((n - 1) < n) ∧ ((List.drop 1 (List.drop ((n - 1) * 2) (dI .i64 l)))[0]? = some (D.lit (.int .i64 (List.getD l (((n - 1) * 2) + 1) 0)))) ∧ (((List.getD l (((n - 1) * 2) + 1) 0) ≤ hi))) [(6, bV true)] [] 1 ⟨zo, (by have h0 := (jC l n zo zo); rw [hx2] at h0; exact h0), rfl, zo, bZ, zo, zo, zo, bZ, zo⟩ ?_
     refine AW.ret ?_
     exact kB (.inr rfl) [] (P := ((d8 l n lo hi) = true)) zk (by exact u1n (by assumption) zo)
    ·refine kG (.no :: .b true :: .no :: .no :: .call [] (bV true) [] 0 [] none :: kJ 4 (.n 0 :: .no :: .d (D.lit (.int .i64 (List.getD l 0 0))) :: .no :: .b true :: kJ 5 [.n (n - 1), .no, .d (D.lit (.int .i64 (List.getD l (((n - 1) * 2) + 1) 0))), .no, .b false, .no, .no])) ((((0 : Int) ≤ ((n : Int) - 1))) ∧ (Fun 95 [.agg [.d (dl l n)]] (kD []) 0 (bV true) (kD []) 0) ∧ (kM 0) ∧ ((0 : Nat) < n) ∧ ((List.drop 0 (List.drop 0 (dI .i64 l)))[0]? = some (D.lit (.int .i64 (List.getD l 0 0)))) ∧ ((lo ≤ (List.getD l 0 0))) ∧ ((((n : Int) - 1) : Int) = (((n - 1) : Nat) : Int)) ∧ ((n - 1) < n) ∧ ((List.drop 1 (List.drop ((n - 1) * 2) (dI .i64 l)))[0]? = some (D.lit (.int .i64 (List.getD l (((n - 1) * 2) + 1) 0)))) ∧ (¬ ((List.getD l (((n - 1) * 2) + 1) 0) ≤ hi))) [(6, bV false)] [] 1 ⟨zo, (by have h0 := (jC l n zo zo); rw [hx2] at h0; exact h0), rfl, zo, bZ, zo, zo, zo, bZ, zo⟩ ?_
     refine AW.ret ?_
     exact kB (.inr rfl) [] (P := ((d8 l n lo hi) = false)) zk (by exact k0r zo)
   ·refine kG (.no :: .b true :: .no :: .no :: .call [] (bV true) [] 0 [] none :: kJ 4 (.n 0 :: .no :: .d (D.lit (.int .i64 (List.getD l 0 0))) :: .no :: .b false :: kJ 4 [])) ((((0 : Int) ≤ ((n : Int) - 1))) ∧ (Fun 95 [.agg [.d (dl l n)]] (kD []) 0 (bV true) (kD []) 0) ∧ (kM 0) ∧ ((0 : Nat) < n) ∧ ((List.drop 0 (List.drop 0 (dI .i64 l)))[0]? = some (D.lit (.int .i64 (List.getD l 0 0)))) ∧ (¬ (lo ≤ (List.getD l 0 0)))) [(6, bV false)] [] 1 ⟨zo, (by have h0 := (jC l n zo zo); rw [hx2] at h0; exact h0), rfl, zo, bZ, zo⟩ ?_
    refine AW.ret ?_
    exact kB (.inr rfl) [] (P := ((d8 l n lo hi) = false)) zk (by exact k0r zo)
  ·refine kG (.no :: .b true :: .no :: .no :: .call [] (bV false) [] 0 [] none :: kJ 6 []) ((((0 : Int) ≤ ((n : Int) - 1))) ∧ (Fun 95 [.agg [.d (dl l n)]] (kD []) 0 (bV false) (kD []) 0)) [(6, bV false)] [] 1 ⟨zo, (by have h0 := (jC l n zo zo); rw [hx2] at h0; exact h0)⟩ ?_
   refine AW.ret ?_
   exact kB (.inr rfl) [] (P := ((d8 l n lo hi) = false)) zk (by exact u4a (by assumption))
 ·refine kG (.no :: .b false :: kJ 7 []) (¬ ((0 : Int) ≤ ((n : Int) - 1))) [(6, bV false)] [] 1 zo ?_
  refine AW.ret ?_
  exact kB (.inr rfl) [] (P := ((d8 l n lo hi) = false)) zk (by exact k0r zo)
abbrev jP (k : Int) (r : List Int) (rn : Nat) (m : List (List Int)) (c : Nat) (s : List Int) (sn : Nat) : BC := .ds [iD k, D.sl (dI .i64 r) rn, D.sl (kW m) c, D.sl (dI .i64 s) sn]
theorem u15 (k : Int) (r : List Int) (rn : Nat) (m : List (List Int)) (c : Nat) (s : List Int) (sn : Nat) (hr : List.length r = rn * 2) (hs : List.length s = sn * 2) (hc : List.length m = c) (h1 : rn ≤ 1000000) (h2 : sn ≤ 1000000) (h3 : c ≤ 1000000) (hW : MsW m) : Fun 71 [.agg [iC k, .d (D.sl (dI .i64 r) rn), .d (D.sl (kW m) c), .d (D.sl (dI .i64 s) sn)]] (kD []) 0 (kP (D.lit (.bool (dH k r rn m s sn)))) (kD []) 0 := by
 refine Fun.mk (n := 54) Tryz.func71 rfl rfl (Nat.le_of_ble_eq_true rfl) ?_
 intro cx hcx
 refine kG [.no, .no] True [(1, rV 0 0)] [(0, some (53, (jP k r rn m c s sn)))] 1 trivial ?_
 refine AW.seq ?_
 by_cases hx1 : (k = 0)
 ·refine kV (.no :: .no :: .b true :: kJ 6 []) ((k = 0)) [(1, rV 0 0), (25, bV true)] zo ?_
  refine zt ?_
  refine kG [.no] True [(2, bV false)] [] 1 trivial ?_
  refine AW.ret ?_
  exact kB (.inr rfl) [] (P := ((dH k r rn m s sn) = false)) zk (by exact k99 zo)
 ·by_cases hx2 : ((dW k) ≠ 0)
  ·refine kV [.no, .no, .b false, .no, .no, .no, .i (dW k), .b true, .no, .no, .no, .no, .no] ((¬ (k = 0)) ∧ (qJ .andNot .i64 k 254 = (dW k)) ∧ (((dW k) ≠ 0))) [(1, rV 0 0), (25, bV true)] ⟨zo, rfl, zo⟩ ?_
   refine zt ?_
   refine kG [.no] True [(2, bV false)] [] 1 trivial ?_
   refine AW.ret ?_
   exact kB (.inr rfl) [] (P := ((dH k r rn m s sn) = false)) zk (by exact k99 zo)
  ·by_cases hx3 : (((c : Nat) : Int) < 1)
   ·refine kV (.no :: .no :: .b false :: .no :: .no :: .no :: .i (dW k) :: .b false :: kJ 5 [.b true, .no, .no, .no]) ((¬ (k = 0)) ∧ (qJ .andNot .i64 k 254 = (dW k)) ∧ (¬ ((dW k) ≠ 0)) ∧ (((c : Int) < 1))) [(1, rV 0 0), (25, bV true)] ⟨zo, rfl, zo, zo⟩ ?_
    refine zt ?_
    refine kG [.no] True [(2, bV false)] [] 1 trivial ?_
    refine AW.ret ?_
    exact kB (.inr rfl) [] (P := ((dH k r rn m s sn) = false)) zk (by exact k65 (k78 zo))
   ·by_cases hx4 : ((16 : Int) < ((c : Nat) : Int))
    ·refine kV (.no :: .no :: .b false :: .no :: .no :: .no :: .i (dW k) :: .b false :: kJ 5 (.b false :: kJ 5 [.b true, .no])) ((¬ (k = 0)) ∧ (qJ .andNot .i64 k 254 = (dW k)) ∧ (¬ ((dW k) ≠ 0)) ∧ (¬ ((c : Int) < 1)) ∧ (((16 : Int) < (c : Int)))) [(1, rV 0 0), (25, bV true)] ⟨zo, rfl, zo, zo, zo⟩ ?_
     refine zt ?_
     refine kG [.no] True [(2, bV false)] [] 1 trivial ?_
     refine AW.ret ?_
     exact kB (.inr rfl) [] (P := ((dH k r rn m s sn) = false)) zk (by exact k65 (k78 zo))
    ·refine kV (.no :: .no :: .b false :: .no :: .no :: .no :: .i (dW k) :: .b false :: kJ 5 (.b false :: kJ 5 [.b false, .no])) ((¬ (k = 0)) ∧ (qJ .andNot .i64 k 254 = (dW k)) ∧ (¬ ((dW k) ≠ 0)) ∧ (¬ ((c : Int) < 1)) ∧ (¬ ((16 : Int) < (c : Int)))) [(1, rV 0 0), (25, bV false)] ⟨zo, rfl, zo, zo, zo⟩ ?_
     refine uM ?_
     refine AW.seq ?_
     refine kV (kJ 4 []) True [(1, rV 0 0), (27, qX (kW m) c), (28, uV c), (29, iV 0)] trivial ?_
     refine AW.block ?_
     refine kU 0 hcx (fun (x : {x : Nat // match x with | i => (i ≤ c) ∧ (∀ j, j < i → zD m j = true)}) => match x with | ⟨i, _⟩ => (⟨[(1, rV 0 0), (27, qX (kW m) c), (28, uV c), (29, uV i)], [(0, some (53, (jP k r rn m c s sn)))], 1⟩ : ES)) (fun x => match x with | ⟨i, _⟩ => c - i) ⟨(0 : Nat), ⟨zo, (fun j hj => absurd hj (Nat.not_lt_zero j))⟩⟩ [] (P := (kQ 0) ∧ (kY (kW m)) ∧ (kQ c) ∧ (kM (c : Int)) ∧ (kM 0) ∧ (kY [iD k, dl r rn, D.sl (kW m) c, dl s sn])) zk ⟨rfl, rfl, rfl, rfl, rfl, rfl⟩ ?_
     rintro ⟨i, hinv0⟩
     obtain ⟨hi, ha⟩ : (i ≤ c) ∧ (∀ j, j < i → zD m j = true) := hinv0
     refine qV (l := [(1, rV 0 0), (27, qX (kW m) c), (28, uV c), (29, uV i)]) (g := [(0, some (53, (jP k r rn m c s sn)))]) (nx := 1) rfl rfl rfl ?_
     by_cases hx5 : (((i : Nat) : Int) < ((c : Nat) : Int))
     ·refine kG [.b true] (((i : Int) < (c : Int))) [(1, rV 0 0), (27, qX (kW m) c), (28, uV c), (29, uV i), (30, bV true)] [(0, some (53, (jP k r rn m c s sn)))] 1 zo ?_
      refine AW.seq ?_
      refine u1 ?_
      refine AW.seq ?_
      refine AW.block ?_
      have hx6 : ((List.length (List.getD m i ([] : List Int))) ≤ 1000000) := MsW.at (kL : MsW m) _
      refine kV [.no, .n i, .d (dl (List.getD m i ([] : List Int)) (List.length (List.getD m i ([] : List Int)))), .no, .no] ((kM (i : Int)) ∧ (i < c) ∧ ((List.drop i (kW m))[0]? = some (dl (List.getD m i ([] : List Int)) (List.length (List.getD m i ([] : List Int)))))) [(1, rV 0 0), (3, uV i), (4, sV .i64 (List.getD m i ([] : List Int)) (List.length (List.getD m i ([] : List Int)))), (27, qX (kW m) c), (28, uV c), (29, uV i)] ⟨rfl, zo, (aF _ _ zo)⟩ ?_
      rcases Bool.eq_false_or_eq_true (fG (List.getD m i ([] : List Int)) (List.length (List.getD m i ([] : List Int)))) with hx7 | hx7
      ·rcases Bool.eq_false_or_eq_true (nI (List.take i m) (List.getD m i ([] : List Int))) with hx8 | hx8
       ·refine kV (.no :: .call [] (bV true) [] 0 [] none :: kJ 5 [.sls 0 i i (kW (List.take i m)), .no, .call [] (bV true) [] 0 [] none, .no]) ((Fun 86 [.c (.d (dl (List.getD m i ([] : List Int)) (List.length (List.getD m i ([] : List Int)))))] (kD []) 0 (bV true) (kD []) 0) ∧ (kQ 0) ∧ (kM (i : Int)) ∧ ((0 : Nat) ≤ i) ∧ (i ≤ c) ∧ (i - 0 = i) ∧ (List.take (i * 1) (List.drop (0 * 1) (kW m)) = (kW (List.take i m))) ∧ (Fun 87 [.c (.d (D.sl (kW (List.take i m)) i)), .c (.d (dl (List.getD m i ([] : List Int)) (List.length (List.getD m i ([] : List Int)))))] (kD []) 0 (bV true) (kD []) 0)) [(1, rV 0 0), (27, qX (kW m) c), (28, uV c), (29, uV i), (44, bV true)] ⟨(by have h0 := (lS (List.getD m i ([] : List Int)) (List.length (List.getD m i ([] : List Int))) rfl zo); rw [hx7] at h0; exact h0), rfl, rfl, zo, zo, zo, (fN _ _), (by have h0 := (k6l (List.take i m) i (List.getD m i ([] : List Int)) (List.length (List.getD m i ([] : List Int))) (by (simp only [qA, k8, List.length_append, List.length_cons, List.length_nil, List.length_take, List.length_drop, List.length_replicate, List.length_set] <;> omega)) rfl zo zo (MsW.take (kL : MsW m) _)); rw [hx8] at h0; exact h0)⟩ ?_
        refine zt ?_
        refine kG [.no] True [(2, bV false)] [] 1 trivial ?_
        refine AW.ret ?_
        exact kB (.inr rfl) [] (P := ((dH k r rn m s sn) = false)) zk (by exact k65 (k79 (k := i) zo (by exact k9r (by assumption))))
       ·refine kV (.no :: .call [] (bV true) [] 0 [] none :: kJ 5 [.sls 0 i i (kW (List.take i m)), .no, .call [] (bV false) [] 0 [] none, .no]) ((Fun 86 [.c (.d (dl (List.getD m i ([] : List Int)) (List.length (List.getD m i ([] : List Int)))))] (kD []) 0 (bV true) (kD []) 0) ∧ (kQ 0) ∧ (kM (i : Int)) ∧ ((0 : Nat) ≤ i) ∧ (i ≤ c) ∧ (i - 0 = i) ∧ (List.take (i * 1) (List.drop (0 * 1) (kW m)) = (kW (List.take i m))) ∧ (Fun 87 [.c (.d (D.sl (kW (List.take i m)) i)), .c (.d (dl (List.getD m i ([] : List Int)) (List.length (List.getD m i ([] : List Int)))))] (kD []) 0 (bV false) (kD []) 0)) [(1, rV 0 0), (27, qX (kW m) c), (28, uV c), (29, uV i), (44, bV false)] ⟨(by have h0 := (lS (List.getD m i ([] : List Int)) (List.length (List.getD m i ([] : List Int))) rfl zo); rw [hx7] at h0; exact h0), rfl, rfl, zo, zo, zo, (fN _ _), (by have h0 := (k6l (List.take i m) i (List.getD m i ([] : List Int)) (List.length (List.getD m i ([] : List Int))) (by (simp only [qA, k8, List.length_append, List.length_cons, List.length_nil, List.length_take, List.length_drop, List.length_replicate, List.length_set] <;> omega)) rfl zo zo (MsW.take (kL : MsW m) _)); rw [hx8] at h0; exact h0)⟩ ?_
        refine uM ?_
        refine uG [.w, .no] (qB ((i : Int) + 1)) [(1, rV 0 0), (27, qX (kW m) c), (28, uV c), (29, iV (↑i + 1))] ⟨by omega, by omega⟩ ?_
        exact qH ⟨((i + 1) : Nat), ⟨zo, (fun j hj => (Nat.lt_succ_iff_lt_or_eq.1 hj).elim (ha j) (fun e9 => by subst e9; exact k23 (by assumption) (by assumption)))⟩⟩ [] (P := (kQ 0) ∧ (kY (kW m)) ∧ (kQ c) ∧ (kM (c : Int)) ∧ (((((i + 1) : Nat) : Int) : Int) = ((i : Int) + 1)) ∧ (kY [iD k, dl r rn, D.sl (kW m) c, dl s sn])) zk ⟨rfl, rfl, rfl, rfl, (by rfl), rfl⟩ (show c - (i + 1) < c - i from zo)
      ·refine kV [.no, .call [] (bV false) [] 0 [] none, .no, .no, .no] (Fun 86 [.c (.d (dl (List.getD m i ([] : List Int)) (List.length (List.getD m i ([] : List Int)))))] (kD []) 0 (bV false) (kD []) 0) [(1, rV 0 0), (27, qX (kW m) c), (28, uV c), (29, uV i), (44, bV true)] (by have h0 := (lS (List.getD m i ([] : List Int)) (List.length (List.getD m i ([] : List Int))) rfl zo); rw [hx7] at h0; exact h0) ?_
       refine zt ?_
       refine kG [.no] True [(2, bV false)] [] 1 trivial ?_
       refine AW.ret ?_
       exact kB (.inr rfl) [] (P := ((dH k r rn m s sn) = false)) zk (by exact k65 (k79 (k := i) zo (by exact k9s (by assumption))))
     ·refine kG [.b false] (¬ ((i : Int) < (c : Int))) [(1, rV 0 0), (27, qX (kW m) c), (28, uV c), (29, uV i), (30, bV false)] [(0, some (53, (jP k r rn m c s sn)))] 1 zo ?_
      refine AW.seq ?_
      refine zf ?_
      refine AW.exit ?_
      rcases Bool.eq_false_or_eq_true (d8 r rn 1000 768000) with hx9 | hx9
      ·rcases Bool.eq_false_or_eq_true (d8 s sn 1 65536) with hx10 | hx10
       ·refine kG [.no, .no, .call [] (bV true) [] 0 [] none, .no, .no, .no, .call [] (bV true) [] 0 [] none, .no, .no] ((Fun 88 [.agg [.d (dl r rn)], iE 1000, iE 768000] (kD []) 0 (bV true) (kD []) 0) ∧ (Fun 88 [.agg [.d (dl s sn)], iE 1, iE 65536] (kD []) 0 (bV true) (kD []) 0)) [(2, bV true)] [] 1 ⟨(by have h0 := (dX r rn 1000 768000 zo zo); rw [hx9] at h0; exact h0), (by have h0 := (dX s sn 1 65536 zo zo); rw [hx10] at h0; exact h0)⟩ ?_
        refine AW.ret ?_
        exact kB (.inr rfl) [] (P := ((dH k r rn m s sn) = true)) zk (by exact u3m zo (by assumption) (u1o zo zo (fun j hj => ha j zo)) (by assumption))
       ·refine kG [.no, .no, .call [] (bV true) [] 0 [] none, .no, .no, .no, .call [] (bV false) [] 0 [] none, .no, .no] ((Fun 88 [.agg [.d (dl r rn)], iE 1000, iE 768000] (kD []) 0 (bV true) (kD []) 0) ∧ (Fun 88 [.agg [.d (dl s sn)], iE 1, iE 65536] (kD []) 0 (bV false) (kD []) 0)) [(2, bV false)] [] 1 ⟨(by have h0 := (dX r rn 1000 768000 zo zo); rw [hx9] at h0; exact h0), (by have h0 := (dX s sn 1 65536 zo zo); rw [hx10] at h0; exact h0)⟩ ?_
        refine AW.ret ?_
        exact kB (.inr rfl) [] (P := ((dH k r rn m s sn) = false)) zk (by exact u6z (by assumption))
      ·refine kG [.no, .no, .call [] (bV false) [] 0 [] none, .no, .no, .no] (Fun 88 [.agg [.d (dl r rn)], iE 1000, iE 768000] (kD []) 0 (bV false) (kD []) 0) [(2, bV false)] [] 1 (by have h0 := (dX r rn 1000 768000 zo zo); rw [hx9] at h0; exact h0) ?_
       refine AW.ret ?_
       exact kB (.inr rfl) [] (P := ((dH k r rn m s sn) = false)) zk (by exact u70 (by assumption))
@[reducible] def eP (x : List Bx) (i : Nat) : List D := [iD (vU x i), dl (aE x i) (yJ x i), D.sl (kW (qD x i)) (List.length (qD x i)), dl (cH x i) (aA x i)]
@[reducible] def q1A (x : List Bx) (i : Nat) : E1 := .agg [iC (vU x i), .d (dl (aE x i) (yJ x i)), .d (D.sl (kW (qD x i)) (List.length (qD x i))), .d (dl (cH x i) (aA x i))]
@[reducible] def u2 (x : List Bx) (n : Nat) : E1 := (.c (.d (D.sl (kX x) n)))
theorem gH (bs : List Bx) (n : Nat) (hn : List.length bs = n) (h1 : n ≤ 1000000) (hW : BsW bs) : Fun 46 [.c (.d (D.sl (kX bs) n))] (kD []) 0 (kP (D.lit (.bool (iP bs)))) (kD []) 0 := by
 refine Fun.mk (n := 18) Tryz.func46 rfl rfl (Nat.le_of_ble_eq_true rfl) ?_
 intro cx hcx
 refine kG [.no] True [(0, .e (u2 bs n))] [] 0 trivial ?_
 refine AW.seq ?_
 refine kV [.no, .no, .no] True [(0, .e (u2 bs n)), (5, .e (u2 bs n)), (6, uV n), (7, iV 0)] trivial ?_
 refine AW.block ?_
 refine kU 0 hcx (fun (x : {x : Nat // match x with | i => (i ≤ n) ∧ (∀ j, j < i → vbE bs j = true)}) => match x with | ⟨i, _⟩ => (⟨[(0, .e (u2 bs n)), (5, .e (u2 bs n)), (6, uV n), (7, uV i)], [], 0⟩ : ES)) (fun x => match x with | ⟨i, _⟩ => n - i) ⟨(0 : Nat), ⟨zo, (fun j hj => absurd hj (Nat.not_lt_zero j))⟩⟩ [] (P := (kY (kX bs)) ∧ (kQ n) ∧ (kY (kX bs)) ∧ (kQ n) ∧ (kM (n : Int)) ∧ (kM 0)) zk ⟨rfl, rfl, rfl, rfl, rfl, rfl⟩ ?_
 rintro ⟨i, hinv0⟩
 obtain ⟨hi, ha⟩ : (i ≤ n) ∧ (∀ j, j < i → vbE bs j = true) := hinv0
 refine qV (l := [(0, .e (u2 bs n)), (5, .e (u2 bs n)), (6, uV n), (7, uV i)]) (g := []) (nx := 0) rfl rfl rfl ?_
 by_cases hx1 : (((i : Nat) : Int) < ((n : Nat) : Int))
 ·refine kG [.b true] (((i : Int) < (n : Int))) [(0, .e (u2 bs n)), (5, .e (u2 bs n)), (6, uV n), (7, uV i), (8, bV true)] [] 0 zo ?_
  refine AW.seq ?_
  refine u1 ?_
  refine AW.seq ?_
  refine AW.block ?_
  obtain ⟨hx2, hx3, hx4, hx5, hx6⟩ := BsW.at (kL : BsW bs) (i)
  refine kG [.n i, .ds (eP bs i), .no, .no] ((kM (i : Int)) ∧ (i < n) ∧ (List.take 4 (List.drop (i * 4) (kX bs)) = (eP bs i)) ∧ (((eP bs i) : List D).length = 4)) [(0, .e (u2 bs n)), (4, rV 0 0), (5, .e (u2 bs n)), (6, uV n), (7, uV i)] [(0, some (53, .ds (eP bs i)))] 1 ⟨rfl, zo, (f9 zo), rfl⟩ ?_
  rcases Bool.eq_false_or_eq_true (dH (vU bs i) (aE bs i) (yJ bs i) (qD bs i) (cH bs i) (aA bs i)) with hx7 | hx7
  ·refine kG [.no, .call [] (bV true) [] 0 [] none, .no] (Fun 71 [(q1A bs i)] (kD []) 0 (bV true) (kD []) 0) [(0, .e (u2 bs n)), (5, .e (u2 bs n)), (6, uV n), (7, uV i), (13, bV false)] [] 1 (by have h0 := (u15 (vU bs i) (aE bs i) (yJ bs i) (qD bs i) (List.length (qD bs i)) (cH bs i) (aA bs i) zo zo rfl zo zo zo (cG (kL : BsW bs) _)); rw [hx7] at h0; exact h0) ?_
   refine uM ?_
   refine uG [.w, .no] (qB ((i : Int) + 1)) [(0, .e (u2 bs n)), (5, .e (u2 bs n)), (6, uV n), (7, iV (↑i + 1))] ⟨by omega, by omega⟩ ?_
   exact qH ⟨((i + 1) : Nat), ⟨zo, (fun j hj => (Nat.lt_succ_iff_lt_or_eq.1 hj).elim (ha j) (fun e9 => by subst e9; assumption))⟩⟩ [] (P := (kY (kX bs)) ∧ (kQ n) ∧ (kY (kX bs)) ∧ (kQ n) ∧ (kM (n : Int)) ∧ (((((i + 1) : Nat) : Int) : Int) = ((i : Int) + 1))) zk ⟨rfl, rfl, rfl, rfl, rfl, (by rfl)⟩ (show n - (i + 1) < n - i from zo)
  ·refine kG [.no, .call [] (bV false) [] 0 [] none, .no] (Fun 71 [(q1A bs i)] (kD []) 0 (bV false) (kD []) 0) [(0, .e (u2 bs n)), (5, .e (u2 bs n)), (6, uV n), (7, uV i), (13, bV true)] [] 1 (by have h0 := (u15 (vU bs i) (aE bs i) (yJ bs i) (qD bs i) (List.length (qD bs i)) (cH bs i) (aA bs i) zo zo rfl zo zo zo (cG (kL : BsW bs) _)); rw [hx7] at h0; exact h0) ?_
   refine zt ?_
   refine kV [.no] True [(2, bV false)] trivial ?_
   refine AW.ret ?_
   exact kB (.inr rfl) [] (P := ((iP bs) = false)) zk (by exact u4m (k := i) zo (by assumption))
 ·refine kG [.b false] (¬ ((i : Int) < (n : Int))) [(0, .e (u2 bs n)), (5, .e (u2 bs n)), (6, uV n), (7, uV i), (8, bV false)] [] 0 zo ?_
  refine AW.seq ?_
  refine zf ?_
  refine AW.exit ?_
  by_cases hx8 : (((n : Nat) : Int) ≤ 64)
  ·refine kG [.no, .no, .b true, .no] (((n : Int) ≤ 64)) [(2, bV true)] [] 0 zo ?_
   refine AW.ret ?_
   exact kB (.inr rfl) [] (P := ((iP bs) = true)) zk (by exact u1p zo (fun j hj => ha j zo))
  ·refine kG [.no, .no, .b false, .no] (¬ ((n : Int) ≤ 64)) [(2, bV false)] [] 0 zo ?_
   refine AW.ret ?_
   exact kB (.inr rfl) [] (P := ((iP bs) = false)) zk (by exact u4l zo)
end Go.Proofs.YtdbjebdomdnbkaaGreat
