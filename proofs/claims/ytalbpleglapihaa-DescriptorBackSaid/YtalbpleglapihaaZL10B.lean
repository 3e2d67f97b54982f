/- Merged texts. -/
import Derived.Test.YtalbpleglapihaaZL09B
import Derived.Test.YtalbpleglapihaaZL06
namespace Go.Proofs.Ytalbpleglapihaa
open Go.ChangeShapes Go.WideShapes Go.ChangeAt Go.RowKit
set_option linter.unusedVariables false
set_option linter.unusedSimpArgs false
set_option maxHeartbeats 4000000
set_option maxRecDepth 100000
theorem l7 {p : Prop} (h : p := by first | omega | (simp only [uR, qK, List.length_append, List.length_cons, List.length_nil, List.length_take, List.length_drop, List.length_replicate, List.length_set, List.length_map, List.length_reverse, Nat.mul_one] <;> omega) | rfl) : p := h
theorem jJ (a b : List Int) (n m : Nat) (ha : List.length a = n * 2) (hb : List.length b = m * 2) (h3 : n ≤ 9223372036854775807) (h4 : m ≤ 9223372036854775807) : Fun 60 [.agg [.d (D.sl (dI .i64 a) n)], .agg [.d (D.sl (dI .i64 b) m)]] (kG []) 0 (kT (D.lit (.bool (sS a b)))) (kG []) 0 := by
 refine Fun.mk (n := 31) Try.func60 rfl rfl (Nat.le_of_ble_eq_true rfl) ?_
 intro cx hcx
 refine kK [.no, .no, .no] True [(2, rV 0 0), (3, rV 1 0)] [(0, some (75, .ds [dl a n])), (1, some (75, .ds [dl b m]))] 2 trivial ?_
 refine AW.seq ?_
 by_cases hx1 : (((n : Nat) : Int) ≠ ((m : Nat) : Int))
 ·refine kX (kS 6 [.b true]) (((n : Int) ≠ (m : Int))) [(2, rV 0 0), (3, rV 1 0), (12, bV true)] zo ?_
  refine zt ?_
  refine kK [.no] True [(4, bV false)] [] 2 trivial ?_
  refine AW.ret ?_
  exact kC (.inr rfl) [] (P := ((sS a b) = false)) zk (by first | exact k0v ha hb zo | exact k0u (k := k) zo | exact k0t ha hb zo (fun j hj => hq j zo))
 ·refine kX (kS 6 [.b false]) (¬ ((n : Int) ≠ (m : Int))) [(2, rV 0 0), (3, rV 1 0), (12, bV false)] zo ?_
  refine yM ?_
  refine AW.seq ?_
  refine kX (kS 4 []) True [(2, rV 0 0), (3, rV 1 0), (15, uV n), (16, iV 0)] trivial ?_
  refine AW.block ?_
  refine kW 0 hcx (fun (x : {x : Nat // match x with | k => (k ≤ n) ∧ (∀ j, j < k → List.getD a (j * 2) 0 = List.getD b (j * 2) 0 ∧ List.getD a (j * 2 + 1) 0 = List.getD b (j * 2 + 1) 0)}) => match x with | ⟨k, _⟩ => (⟨[(2, rV 0 0), (3, rV 1 0), (15, uV n), (16, uV k)], [(0, some (75, .ds [dl a n])), (1, some (75, .ds [dl b m]))], 2⟩ : ES)) (fun x => match x with | ⟨k, _⟩ => n - k) ⟨(0 : Nat), ⟨(by first | omega | assumption | simp), (fun j hj => absurd hj (Nat.not_lt_zero j))⟩⟩ [] (P := (kN 0) ∧ (kN 0) ∧ (kM (n : Int)) ∧ (kM 0) ∧ (k8 [dl a n]) ∧ (k8 [dl b m])) zk ⟨rfl, rfl, rfl, rfl, rfl, rfl⟩ ?_
  rintro ⟨k, hinv0⟩
  obtain ⟨hk, hq⟩ : (k ≤ n) ∧ (∀ j, j < k → List.getD a (j * 2) 0 = List.getD b (j * 2) 0 ∧ List.getD a (j * 2 + 1) 0 = List.getD b (j * 2 + 1) 0) := hinv0
  refine uH (l := [(2, rV 0 0), (3, rV 1 0), (15, uV n), (16, uV k)]) (g := [(0, some (75, .ds [dl a n])), (1, some (75, .ds [dl b m]))]) (nx := 2) rfl rfl rfl ?_
  by_cases hx2 : (((k : Nat) : Int) < ((n : Nat) : Int))
  ·refine kK [.b true] (((k : Int) < (n : Int))) [(2, rV 0 0), (3, rV 1 0), (15, uV n), (16, uV k), (17, bV true)] [(0, some (75, .ds [dl a n])), (1, some (75, .ds [dl b m]))] 2 zo ?_
   refine AW.seq ?_
   refine vD ?_
   refine AW.seq ?_
   refine AW.block ?_
   refine kX [.no, .no] True [(2, rV 0 0), (3, rV 1 0), (5, uV k), (15, uV n), (16, uV k)] trivial ?_
   by_cases hx3 : (((List.getD a (k * 2) 0) = (List.getD b (k * 2) 0)) ∧ ((List.getD a ((k * 2) + 1) 0) = (List.getD b ((k * 2) + 1) 0)))
   ·refine kX [.no, .no, .no, .n k, .ds [iD (List.getD a (k * 2) 0), iD (List.getD a ((k * 2) + 1) 0)], .no, .no, .no, .n k, .ds [iD (List.getD b (k * 2) 0), iD (List.getD b ((k * 2) + 1) 0)], .b false] ((kM (k : Int)) ∧ (k < n) ∧ (List.take 2 (List.drop (k * 2) (dI .i64 a)) = [iD (List.getD a (k * 2) 0), iD (List.getD a ((k * 2) + 1) 0)]) ∧ (([iD (List.getD a (k * 2) 0), iD (List.getD a ((k * 2) + 1) 0)] : List D).length = 2) ∧ (kM (k : Int)) ∧ (k < m) ∧ (List.take 2 (List.drop (k * 2) (dI .i64 b)) = [iD (List.getD b (k * 2) 0), iD (List.getD b ((k * 2) + 1) 0)]) ∧ (([iD (List.getD b (k * 2) 0), iD (List.getD b ((k * 2) + 1) 0)] : List D).length = 2) ∧ ((((List.getD a (k * 2) 0) = (List.getD b (k * 2) 0)) ∧ ((List.getD a ((k * 2) + 1) 0) = (List.getD b ((k * 2) + 1) 0))))) [(2, rV 0 0), (3, rV 1 0), (15, uV n), (16, uV k), (29, bV false)] ⟨rfl, zo, (v7 .i64 a (k * 2) 2 l7), rfl, rfl, zo, (v7 .i64 b (k * 2) 2 l7), rfl, ⟨zo, zo⟩⟩ ?_
    refine yM ?_
    refine yD [.w, .no] (qL ((k : Int) + 1)) [(2, rV 0 0), (3, rV 1 0), (15, uV n), (16, iV (↑k + 1))] ⟨by omega, by omega⟩ ?_
    exact qS ⟨((k + 1) : Nat), ⟨(by first | omega | assumption | simp), (fun j hj => (Nat.lt_succ_iff_lt_or_eq.1 hj).elim (hq j) (fun e9 => by subst e9; omega))⟩⟩ [] (P := (kN 0) ∧ (kN 0) ∧ (kM (n : Int)) ∧ (((((k + 1) : Nat) : Int) : Int) = ((k : Int) + 1)) ∧ (k8 [dl a n]) ∧ (k8 [dl b m])) zk ⟨rfl, rfl, rfl, (by first | rfl | omega | assumption | (simp; done) | (simp; omega)), rfl, rfl⟩ (show n - (k + 1) < n - k from (by first | omega | (show _ < _; simp; omega)))
   ·refine kX [.no, .no, .no, .n k, .ds [iD (List.getD a (k * 2) 0), iD (List.getD a ((k * 2) + 1) 0)], .no, .no, .no, .n k, .ds [iD (List.getD b (k * 2) 0), iD (List.getD b ((k * 2) + 1) 0)], .b true] ((kM (k : Int)) ∧ (k < n) ∧ (List.take 2 (List.drop (k * 2) (dI .i64 a)) = [iD (List.getD a (k * 2) 0), iD (List.getD a ((k * 2) + 1) 0)]) ∧ (([iD (List.getD a (k * 2) 0), iD (List.getD a ((k * 2) + 1) 0)] : List D).length = 2) ∧ (kM (k : Int)) ∧ (k < m) ∧ (List.take 2 (List.drop (k * 2) (dI .i64 b)) = [iD (List.getD b (k * 2) 0), iD (List.getD b ((k * 2) + 1) 0)]) ∧ (([iD (List.getD b (k * 2) 0), iD (List.getD b ((k * 2) + 1) 0)] : List D).length = 2) ∧ (¬ (((List.getD a (k * 2) 0) = (List.getD b (k * 2) 0)) ∧ ((List.getD a ((k * 2) + 1) 0) = (List.getD b ((k * 2) + 1) 0))))) [(2, rV 0 0), (3, rV 1 0), (15, uV n), (16, uV k), (29, bV true)] ⟨rfl, zo, (v7 .i64 a (k * 2) 2 l7), rfl, rfl, zo, (v7 .i64 b (k * 2) 2 l7), rfl, zo⟩ ?_
    refine zt ?_
    refine kK [.no] True [(4, bV false)] [] 2 trivial ?_
    refine AW.ret ?_
    exact kC (.inr rfl) [] (P := ((sS a b) = false)) zk (by first | exact k0v ha hb zo | exact k0u (k := k) zo | exact k0t ha hb zo (fun j hj => hq j zo))
  ·refine kK [.b false] (¬ ((k : Int) < (n : Int))) [(2, rV 0 0), (3, rV 1 0), (15, uV n), (16, uV k), (17, bV false)] [(0, some (75, .ds [dl a n])), (1, some (75, .ds [dl b m]))] 2 zo ?_
   refine AW.seq ?_
   refine zf ?_
   refine AW.exit ?_
   refine kK [.no] True [(4, bV true)] [] 2 trivial ?_
   refine AW.ret ?_
   exact kC (.inr rfl) [] (P := ((sS a b) = true)) zk (by first | exact k0v ha hb zo | exact k0u (k := k) zo | exact k0t ha hb zo (fun j hj => hq j zo))
end Go.Proofs.Ytalbpleglapihaa
namespace Go.Proofs.Ytalbpleglapihaa
open Go.ChangeShapes Go.WideShapes Go.ChangeAt Go.RowKit
set_option linter.unusedVariables false
set_option linter.unusedSimpArgs false
/-! chapter 10: how choices are compared -/
structure Cmp {α : Type} (f : α → α → Int) : Prop where
 anti : ∀ a b, f a b = - f b a
 tr : ∀ a b c, f a b ≤ 0 → f b c ≤ 0 → f a c ≤ 0
theorem Cmp.zero {α : Type} {f : α → α → Int} (h : Cmp f) (a : α) : f a a = 0 := by
 have := h.anti a a; omega
def orV (a b : Int) : Int := if a = 0 then b else a
def cmV (a b : Int) : Int := if a < b then -1 else if a = b then 0 else 1
def fsV (p q : Bool) : Int := if p = q then 0 else if p = true then -1 else 1
def lxV : List Int → List Int → Int
 | [], [] => 0
 | [], _ :: _ => -1
 | _ :: _, [] => 1
 | a :: r, b :: s => orV (cmV a b) (lxV r s)
def awV (a b : Int) : Int := if a > b then a - b else b - a
def nrV (w a b : Int) : Int := orV (cmV (awV w a) (awV w b)) (cmV a b)
def kdV (w a b : Int) : Int := orV (fsV (decide (a = w)) (decide (b = w))) (cmV b a)
def cnC (w m : List Int) : Int := ((coL w m (List.length m)).length : Int)
def mpV (w a b : List Int) : Int := orV (fsV (bX a w) (bX b w)) (orV (cmV (cnC w b) (cnC w a)) (orV (cmV (a.length : Int) (b.length : Int)) (lxV a b)))
structure Co where
 k : Int
 r : Int
 m : List Int
 s : Int
def coV (w a b : Co) : Int := orV (kdV w.k a.k b.k) (orV (nrV w.r a.r b.r) (orV (mpV w.m a.m b.m) (nrV w.s a.s b.s)))
def coK (wk wr wz ak ar az bk br bz : Int) (w a b : List Int) : Int := orV (kdV wk ak bk) (orV (nrV wr ar br) (orV (mpV w a b) (nrV wz az bz)))
end Go.Proofs.Ytalbpleglapihaa
namespace Go.Proofs.Ytalbpleglapihaa
open Go.ChangeShapes Go.WideShapes Go.ChangeAt Go.RowKit
set_option linter.unusedVariables false
set_option linter.unusedSimpArgs false
/-! chapter 10: maps and boxes as data -/
set_option maxHeartbeats 4000000
set_option maxRecDepth 100000
def k9 (xs : List (List Int)) : List D := xs.map fun l => D.sl (dI .i64 l) l.length
theorem kR (xs : List (List Int)) : List.length (k9 xs) = List.length xs := by unfold k9; simp
theorem xJ (xs : List (List Int)) (l : List Int) (n : Nat) (h : l.length = n) : k9 xs ++ [D.sl (dI .i64 l) n] = k9 (xs ++ [l]) := by subst h; unfold k9; simp
theorem aN (xs : List (List Int)) (i : Nat) (h : i < xs.length) : (List.drop i (k9 xs))[0]? = some (D.sl (dI .i64 (List.getD xs i [])) (List.getD xs i []).length) := by
 unfold k9
 rw [List.getElem?_drop, Nat.add_zero, List.getElem?_map, List.getElem?_eq_getElem h, List.getD_eq_getElem?_getD, List.getElem?_eq_getElem h]; rfl
theorem rA (xs : List (List Int)) (n : Nat) : List.take (n * 1) (List.drop (0 * 1) (k9 xs)) = k9 (List.take n xs) := by unfold k9; simp [List.map_take]
def MsW (xs : List (List Int)) : Prop := ∀ l ∈ xs, List.length l ≤ 1000000
theorem MsW.at {xs : List (List Int)} (h : MsW xs) (i : Nat) : List.length (List.getD xs i []) ≤ 1000000 := by
 rw [List.getD_eq_getElem?_getD]
 cases e : xs[i]? with
 | none => exact Nat.zero_le _
 | some l => exact h l (List.mem_of_getElem? e)
theorem MsW.nil : MsW [] := fun l h => by cases h
theorem MsW.snoc {xs : List (List Int)} {l : List Int} (h : MsW xs) (hl : List.length l ≤ 1000000) : MsW (xs ++ [l]) := fun m hm => (List.mem_append.1 hm).elim (h m) fun hm => by
 rw [List.mem_singleton.1 hm]; exact hl
theorem MsW.take {xs : List (List Int)} (h : MsW xs) (n : Nat) : MsW (List.take n xs) := fun m hm => h m (List.mem_of_mem_take hm)
def sW (xs : List (List Int)) (m : List Int) : Bool := decide (m ∈ xs)
theorem u5n {xs : List (List Int)} {m : List Int} {k : Nat} (hk : k < xs.length) (h : bX (List.getD xs k []) m = true) : sW xs m = true := by
 have e : List.getD xs k [] = xs[k] := by rw [List.getD_eq_getElem?_getD, List.getElem?_eq_getElem hk]; rfl
 have h1 := k11 h
 rw [e] at h1
 exact decide_eq_true (h1 ▸ List.getElem_mem hk)
theorem u5o {xs : List (List Int)} {m : List Int} (h : ∀ j, j < xs.length → bX (List.getD xs j []) m = false) : sW xs m = false := by
 refine decide_eq_false fun hm => ?_
 obtain ⟨j, hj, e⟩ := List.mem_iff_getElem.1 hm
 have h1 := k0z (h j hj)
 have e1 : List.getD xs j [] = xs[j] := by rw [List.getD_eq_getElem?_getD, List.getElem?_eq_getElem hj]; rfl
 exact h1 (by rw [e1, e])
def vmE (xs : List (List Int)) (i : Nat) : Bool := jT (List.getD xs i []) (List.getD xs i []).length && !(sW (List.take i xs) (List.getD xs i []))
def oU (xs : List (List Int)) : Bool := decide (1 ≤ xs.length ∧ xs.length ≤ 16 ∧ ∀ i, i < xs.length → vmE xs i = true)
theorem zB {xs : List (List Int)} (h1 : 1 ≤ xs.length) (h2 : xs.length ≤ 16) (h : ∀ i, i < xs.length → vmE xs i = true) : oU xs = true := decide_eq_true ⟨h1, h2, h⟩
theorem k0l {xs : List (List Int)} {k : Nat} (hk : k < xs.length) (h : vmE xs k = false) : oU xs = false := decide_eq_false fun h1 => by
 have := h1.2.2 k hk; rw [h] at this; cases this
theorem k0k {xs : List (List Int)} (h : xs.length < 1 ∨ 16 < xs.length) : oU xs = false := decide_eq_false fun h1 => by omega
theorem k7m {xs : List (List Int)} {i : Nat} (h1 : jT (List.getD xs i []) (List.getD xs i []).length = true) (h2 : sW (List.take i xs) (List.getD xs i []) = false) : vmE xs i = true := by unfold vmE; rw [h1, h2]; rfl
theorem u1l {xs : List (List Int)} {i : Nat} (h1 : jT (List.getD xs i []) (List.getD xs i []).length = false) : vmE xs i = false := by unfold vmE; rw [h1]; rfl
theorem u1k {xs : List (List Int)} {i : Nat} (h2 : sW (List.take i xs) (List.getD xs i []) = true) : vmE xs i = false := by unfold vmE; rw [h2]; cases jT (List.getD xs i []) (List.getD xs i []).length <;> rfl
def fT (l : List Int) (n : Nat) (lo hi : Int) : Bool := jN l n && decide (1 ≤ n ∧ lo ≤ List.getD l 0 0 ∧ List.getD l ((n - 1) * 2 + 1) 0 ≤ hi)
theorem u1g {l : List Int} {n : Nat} {lo hi : Int} (h : jN l n = true) (h2 : 1 ≤ n ∧ lo ≤ List.getD l 0 0 ∧ List.getD l ((n - 1) * 2 + 1) 0 ≤ hi) : fT l n lo hi = true := by unfold fT; rw [h, decide_eq_true h2]; rfl
theorem u4s {l : List Int} {n : Nat} {lo hi : Int} (h : jN l n = false) : fT l n lo hi = false := by unfold fT; rw [h]; rfl
theorem u4t {l : List Int} {n : Nat} {lo hi : Int} (h2 : ¬ (1 ≤ n ∧ lo ≤ List.getD l 0 0 ∧ List.getD l ((n - 1) * 2 + 1) 0 ≤ hi)) : fT l n lo hi = false := by unfold fT; rw [decide_eq_false h2]; cases jN l n <;> rfl
structure Bx where
 k : Int
 r : List Int
 rn : Nat
 m : List (List Int)
 s : List Int
 sn : Nat
def bx0 : Bx := ⟨0, [], 0, [], [], 0⟩
def bxR (b : Bx) : List D := [D.lit (.int .i64 b.k), D.sl (dI .i64 b.r) b.rn, D.sl (k9 b.m) b.m.length, D.sl (dI .i64 b.s) b.sn]
def qC : List Bx → List D
 | [] => []
 | b :: r => bxR b ++ qC r
theorem kO : ∀ xs : List Bx, List.length (qC xs) = List.length xs * 4
 | [] => rfl
 | b :: r => by show List.length (bxR b ++ qC r) = (List.length r + 1) * 4; rw [List.length_append, kO r]; show 4 + _ = _; omega
theorem xY : ∀ a b : List Bx, qC (a ++ b) = qC a ++ qC b
 | [], _ => rfl
 | l :: r, b => by show bxR l ++ qC (r ++ b) = bxR l ++ qC r ++ qC b; rw [xY r b, List.append_assoc]
theorem sD : ∀ (i : Nat) (xs : List Bx), List.drop (i * 4) (qC xs) = qC (List.drop i xs)
 | 0, _ => rfl
 | i + 1, [] => by simp [qC]
 | i + 1, l :: r => by
  show List.drop ((i + 1) * 4) (bxR l ++ qC r) = qC (List.drop i r)
  rw [show (i + 1) * 4 = 4 + i * 4 by omega, ← List.drop_drop, ← sD i r]; rfl
def fO (xs : List Bx) (i : Nat) : Bx := List.getD xs i bx0
def bB (xs : List Bx) (i : Nat) : Int := (fO xs i).k
def bY (xs : List Bx) (i : Nat) : List Int := (fO xs i).r
def vJ (xs : List Bx) (i : Nat) : Nat := (fO xs i).rn
def y3 (xs : List Bx) (i : Nat) : List (List Int) := (fO xs i).m
def dP (xs : List Bx) (i : Nat) : List Int := (fO xs i).s
def bA (xs : List Bx) (i : Nat) : Nat := (fO xs i).sn
theorem k75 {xs : List Bx} {i : Nat} (h : i < List.length xs) : qC (List.drop i xs) = bxR (fO xs i) ++ qC (List.drop (i + 1) xs) := by
 have e : fO xs i = xs[i] := by unfold fO; rw [List.getD_eq_getElem?_getD, List.getElem?_eq_getElem h]; rfl
 rw [List.drop_eq_getElem_cons h, e]; rfl
theorem jI {xs : List Bx} {i : Nat} (h : i < List.length xs) : List.take 4 (List.drop (i * 4) (qC xs)) = [D.lit (.int .i64 (bB xs i)), D.sl (dI .i64 (bY xs i)) (vJ xs i), D.sl (k9 (y3 xs i)) (List.length (y3 xs i)), D.sl (dI .i64 (dP xs i)) (bA xs i)] := by
 rw [sD, k75 h]; rfl
def BxW (b : Bx) : Prop := List.length b.r = b.rn * 2 ∧ List.length b.s = b.sn * 2 ∧ b.rn ≤ 1000000 ∧ b.sn ≤ 1000000 ∧ List.length b.m ≤ 1000000 ∧ MsW b.m
def BsW (xs : List Bx) : Prop := ∀ b ∈ xs, BxW b
theorem u3x : BxW bx0 := ⟨rfl, rfl, Nat.zero_le _, Nat.zero_le _, Nat.zero_le _, MsW.nil⟩
theorem BsW.get {xs : List Bx} (h : BsW xs) (i : Nat) : BxW (fO xs i) := by
 unfold fO
 rw [List.getD_eq_getElem?_getD]
 cases e : xs[i]? with
 | none => exact u3x
 | some l => exact h l (List.mem_of_getElem? e)
theorem BsW.at {xs : List Bx} (h : BsW xs) (i : Nat) : List.length (bY xs i) = vJ xs i * 2 ∧ List.length (dP xs i) = bA xs i * 2 ∧ vJ xs i ≤ 1000000 ∧ bA xs i ≤ 1000000 ∧ List.length (y3 xs i) ≤ 1000000 := by
 have h1 := h.get i
 exact ⟨h1.1, h1.2.1, h1.2.2.1, h1.2.2.2.1, h1.2.2.2.2.1⟩
theorem dY {xs : List Bx} (h : BsW xs) (i : Nat) : MsW (y3 xs i) := (h.get i).2.2.2.2.2
theorem BsW.take {xs : List Bx} (h : BsW xs) (n : Nat) : BsW (List.take n xs) := fun m hm => h m (List.mem_of_mem_take hm)
theorem BsW.drop {xs : List Bx} (h : BsW xs) (n : Nat) : BsW (List.drop n xs) := fun m hm => h m (List.mem_of_mem_drop hm)
theorem BsW.app {xs ys : List Bx} (h : BsW xs) (h2 : BsW ys) : BsW (xs ++ ys) := fun m hm => (List.mem_append.1 hm).elim (h m) (h2 m)
theorem BsW.nil : BsW [] := fun l h => by cases h
theorem BsW.one {b : Bx} (h : BxW b) : BsW [b] := fun m hm => by rw [List.mem_singleton.1 hm]; exact h
def jU (k : Int) : Int := qM .andNot .i64 k 254
def odV (k : Int) : Int := qM .and .i64 k 1
def kiB (k : Int) (q : Nat) : Bool := decide (1 ≤ q ∧ q ≤ 7 ∧ odV (k / ((2 ^ q : Nat) : Int)) = 1)
def fP (k : Int) (r : List Int) (rn : Nat) (m : List (List Int)) (s : List Int) (sn : Nat) : Bool := decide (¬ k = 0 ∧ jU k = 0) && (fT r rn 1000 768000 && (oU m && fT s sn 1 65536))
def vbE (xs : List Bx) (i : Nat) : Bool := fP (bB xs i) (bY xs i) (vJ xs i) (y3 xs i) (dP xs i) (bA xs i)
def mM (xs : List Bx) : Bool := decide (xs.length ≤ 64 ∧ ∀ i, i < xs.length → vbE xs i = true)
theorem u1n {xs : List Bx} (h2 : xs.length ≤ 64) (h : ∀ i, i < xs.length → vbE xs i = true) : mM xs = true := decide_eq_true ⟨h2, h⟩
theorem u54 {xs : List Bx} {k : Nat} (hk : k < xs.length) (h : vbE xs k = false) : mM xs = false := decide_eq_false fun h1 => by
 have := h1.2 k hk; rw [h] at this; cases this
theorem k8z {xs : List Bx} (h : 64 < xs.length) : mM xs = false := decide_eq_false fun h1 => by omega
theorem u3v {k : Int} {r : List Int} {rn : Nat} {m : List (List Int)} {s : List Int} {sn : Nat} (h1 : ¬ k = 0 ∧ jU k = 0) (h2 : fT r rn 1000 768000 = true) (h3 : oU m = true) (h4 : fT s sn 1 65536 = true) : fP k r rn m s sn = true := by
 unfold fP; rw [h2, h3, h4, decide_eq_true h1]; rfl
theorem u62 {k : Int} {r : List Int} {rn : Nat} {m : List (List Int)} {s : List Int} {sn : Nat} (h1 : ¬ (¬ k = 0 ∧ jU k = 0)) : fP k r rn m s sn = false := by
 unfold fP; rw [decide_eq_false h1]; rfl
theorem u60 {k : Int} {r : List Int} {rn : Nat} {m : List (List Int)} {s : List Int} {sn : Nat} (h2 : fT r rn 1000 768000 = false) : fP k r rn m s sn = false := by
 unfold fP; rw [h2, Bool.false_and, Bool.and_false]
theorem u61 {k : Int} {r : List Int} {rn : Nat} {m : List (List Int)} {s : List Int} {sn : Nat} (h3 : oU m = false) : fP k r rn m s sn = false := by
 unfold fP; rw [h3, Bool.false_and, Bool.and_false, Bool.and_false]
theorem u5z {k : Int} {r : List Int} {rn : Nat} {m : List (List Int)} {s : List Int} {sn : Nat} (h4 : fT s sn 1 65536 = false) : fP k r rn m s sn = false := by
 unfold fP; rw [h4, Bool.and_false, Bool.and_false, Bool.and_false]
def bxL (xs : List Bx) : List Bx := if mM xs = true then xs else []
theorem u3w {xs : List Bx} (h : mM xs = true) : bxL xs = xs := if_pos h
theorem gW {p : Prop} (h : p := by first | (rw [List.drop_drop]; exact qQ _ _ _ (by first | omega | (simp only [kR, kO, qK, List.length_append, List.length_cons, List.length_nil, List.length_take, List.length_drop, List.length_replicate, List.length_set, List.length_map, List.length_reverse, Nat.mul_one] <;> omega) | rfl)) | (rw [List.drop_drop, Nat.add_comm]; exact qQ _ _ _ (by first | omega | (simp only [kR, kO, qK, List.length_append, List.length_cons, List.length_nil, List.length_take, List.length_drop, List.length_replicate, List.length_set, List.length_map, List.length_reverse, Nat.mul_one] <;> omega) | rfl))) : p := h
theorem gV {p : Prop} (h : p := by first | exact u1g (by assumption) (by omega) | exact u4s (by assumption) | exact u4t (by omega)) : p := h
theorem fQ (l : List Int) (n : Nat) (lo hi : Int) (hl : List.length l = n * 2) (hb : n ≤ 1000000) : Fun 65 [.agg [.d (D.sl (dI .i64 l) n)], iE lo, iE hi] (kG []) 0 (kT (D.lit (.bool (fT l n lo hi)))) (kG []) 0 := by
 refine Fun.mk (n := 37) Try.func65 rfl rfl (Nat.le_of_ble_eq_true rfl) ?_
 intro cx hcx
 refine kK [.no, .no] True [(1, iV lo), (2, iV hi), (3, rV 0 0)] [(0, some (75, .ds [dl l n]))] 1 trivial ?_
 refine kX [.no, .no, .no, .w, .no] (qL ((n : Int) - 1)) [(1, iV lo), (2, iV hi), (3, rV 0 0), (7, iV (↑n - 1))] ⟨by omega, by omega⟩ ?_
 by_cases hx1 : ((0 : Int) ≤ (((n : Nat) : Int) - 1))
 ·rcases Bool.eq_false_or_eq_true (jN l n) with hx2 | hx2
  ·by_cases hx3 : (lo ≤ (List.getD l 0 0))
   ·by_cases hx4 : ((List.getD l (((n - 1) * 2) + 1) 0) ≤ hi)
    ·refine kK (.no :: .b true :: .no :: .no :: .call [] (bV true) [] 0 [] none :: kS 4 (.n 0 :: .no :: .d (D.lit (.int .i64 (List.getD l 0 0))) :: .no :: .b true :: kS 5 [.n (n - 1), .no, .d (D.lit (.int .i64 (List.getD l (((n - 1) * 2) + 1) 0))), .no, .b true, .no, .no])) ((((0 : Int) ≤ ((n : Int) - 1))) ∧ (Fun 73 [.agg [.d (dl l n)]] (kG []) 0 (bV true) (kG []) 0) ∧ (kM 0) ∧ ((0 : Nat) < n) ∧ ((List.drop 0 (List.drop 0 (dI .i64 l)))[0]? = some (D.lit (.int .i64 (List.getD l 0 0)))) ∧ ((lo ≤ (List.getD l 0 0))) ∧ ((((n : Int) - 1) : Int) = (((n - 1) : Nat) : Int)) ∧ ((n - 1) < n) ∧ ((List.drop 1 (List.drop ((n - 1) * 2) (dI .i64 l)))[0]? = some (D.lit (.int .i64 (List.getD l (((n - 1) * 2) + 1) 0)))) ∧ (((List.getD l (((n - 1) * 2) + 1) 0) ≤ hi))) [(6, bV true)] [] 1 ⟨zo, (by have h0 := (gP l n zo zo); rw [hx2] at h0; exact h0), rfl, zo, gW, zo, (by first | rfl | omega), zo, gW, zo⟩ ?_
     refine AW.ret ?_
     exact kC (.inr rfl) [] (P := ((fT l n lo hi) = true)) zk gV
    ·refine kK (.no :: .b true :: .no :: .no :: .call [] (bV true) [] 0 [] none :: kS 4 (.n 0 :: .no :: .d (D.lit (.int .i64 (List.getD l 0 0))) :: .no :: .b true :: kS 5 [.n (n - 1), .no, .d (D.lit (.int .i64 (List.getD l (((n - 1) * 2) + 1) 0))), .no, .b false, .no, .no])) ((((0 : Int) ≤ ((n : Int) - 1))) ∧ (Fun 73 [.agg [.d (dl l n)]] (kG []) 0 (bV true) (kG []) 0) ∧ (kM 0) ∧ ((0 : Nat) < n) ∧ ((List.drop 0 (List.drop 0 (dI .i64 l)))[0]? = some (D.lit (.int .i64 (List.getD l 0 0)))) ∧ ((lo ≤ (List.getD l 0 0))) ∧ ((((n : Int) - 1) : Int) = (((n - 1) : Nat) : Int)) ∧ ((n - 1) < n) ∧ ((List.drop 1 (List.drop ((n - 1) * 2) (dI .i64 l)))[0]? = some (D.lit (.int .i64 (List.getD l (((n - 1) * 2) + 1) 0)))) ∧ (¬ ((List.getD l (((n - 1) * 2) + 1) 0) ≤ hi))) [(6, bV false)] [] 1 ⟨zo, (by have h0 := (gP l n zo zo); rw [hx2] at h0; exact h0), rfl, zo, gW, zo, (by first | rfl | omega), zo, gW, zo⟩ ?_
     refine AW.ret ?_
     exact kC (.inr rfl) [] (P := ((fT l n lo hi) = false)) zk gV
   ·refine kK (.no :: .b true :: .no :: .no :: .call [] (bV true) [] 0 [] none :: kS 4 (.n 0 :: .no :: .d (D.lit (.int .i64 (List.getD l 0 0))) :: .no :: .b false :: kS 4 [])) ((((0 : Int) ≤ ((n : Int) - 1))) ∧ (Fun 73 [.agg [.d (dl l n)]] (kG []) 0 (bV true) (kG []) 0) ∧ (kM 0) ∧ ((0 : Nat) < n) ∧ ((List.drop 0 (List.drop 0 (dI .i64 l)))[0]? = some (D.lit (.int .i64 (List.getD l 0 0)))) ∧ (¬ (lo ≤ (List.getD l 0 0)))) [(6, bV false)] [] 1 ⟨zo, (by have h0 := (gP l n zo zo); rw [hx2] at h0; exact h0), rfl, zo, gW, zo⟩ ?_
    refine AW.ret ?_
    exact kC (.inr rfl) [] (P := ((fT l n lo hi) = false)) zk gV
  ·refine kK (.no :: .b true :: .no :: .no :: .call [] (bV false) [] 0 [] none :: kS 6 []) ((((0 : Int) ≤ ((n : Int) - 1))) ∧ (Fun 73 [.agg [.d (dl l n)]] (kG []) 0 (bV false) (kG []) 0)) [(6, bV false)] [] 1 ⟨zo, (by have h0 := (gP l n zo zo); rw [hx2] at h0; exact h0)⟩ ?_
   refine AW.ret ?_
   exact kC (.inr rfl) [] (P := ((fT l n lo hi) = false)) zk gV
 ·refine kK (.no :: .b false :: kS 7 []) (¬ ((0 : Int) ≤ ((n : Int) - 1))) [(6, bV false)] [] 1 zo ?_
  refine AW.ret ?_
  exact kC (.inr rfl) [] (P := ((fT l n lo hi) = false)) zk gV
end Go.Proofs.Ytalbpleglapihaa
