/- Merged texts. -/
import Derived.Test.YtdbjebdomdnbkaaZL06
import Derived.Test.YtdbjebdomdnbkaaZL09B
namespace Go.Proofs.Ytdbjebdomdnbkaa
open Go.ChangeShapes Go.WideShapes Go.ChangeAt Go.RowKit
set_option linter.unusedVariables false
set_option linter.unusedSimpArgs false
/-! chapter 10: how choices are compared -/
structure Cmp {α : Type} (f : α → α → Int) : Prop where
 anti : ∀ a b, f a b = - f b a
 tr : ∀ a b c, f a b ≤ 0 → f b c ≤ 0 → f a c ≤ 0
theorem Cmp.zero {α : Type} {f : α → α → Int} (h : Cmp f) (a : α) : f a a = 0 := by
 have := h.anti a a; omega
def orV (a b : Int) : Int := if a = 0 then b else a
def cmV (a b : Int) : Int := if a < b then -1 else if a = b then 0 else 1
def fsV (p q : Bool) : Int := if p = q then 0 else if p = true then -1 else 1
def lxV : List Int → List Int → Int
 | [], [] => 0
 | [], _ :: _ => -1
 | _ :: _, [] => 1
 | a :: r, b :: s => orV (cmV a b) (lxV r s)
def awV (a b : Int) : Int := if a > b then a - b else b - a
def nrV (w a b : Int) : Int := orV (cmV (awV w a) (awV w b)) (cmV a b)
def kdV (w a b : Int) : Int := orV (fsV (decide (a = w)) (decide (b = w))) (cmV b a)
def cnC (w m : List Int) : Int := ((coL w m (List.length m)).length : Int)
def mpV (w a b : List Int) : Int := orV (fsV (eE a w) (eE b w)) (orV (cmV (cnC w b) (cnC w a)) (orV (cmV (a.length : Int) (b.length : Int)) (lxV a b)))
structure Co where
 k : Int
 r : Int
 m : List Int
 s : Int
def coV (w a b : Co) : Int := orV (kdV w.k a.k b.k) (orV (nrV w.r a.r b.r) (orV (mpV w.m a.m b.m) (nrV w.s a.s b.s)))
def coK (wk wr wz ak ar az bk br bz : Int) (w a b : List Int) : Int := orV (kdV wk ak bk) (orV (nrV wr ar br) (orV (mpV w a b) (nrV wz az bz)))
end Go.Proofs.Ytdbjebdomdnbkaa
namespace Go.Proofs.Ytdbjebdomdnbkaa
open Go.ChangeShapes Go.WideShapes Go.ChangeAt Go.RowKit
set_option linter.unusedVariables false
set_option linter.unusedSimpArgs false
/-! chapter 10: maps and boxes as data -/
set_option maxHeartbeats 4000000
set_option maxRecDepth 100000
def kY (xs : List (List Int)) : List D := xs.map fun l => D.sl (dI .i64 l) l.length
theorem kU (xs : List (List Int)) : List.length (kY xs) = List.length xs := by unfold kY; simp
theorem k0f (xs : List (List Int)) (l : List Int) (n : Nat) (h : l.length = n) : kY xs ++ [D.sl (dI .i64 l) n] = kY (xs ++ [l]) := by subst h; unfold kY; simp
theorem cE (xs : List (List Int)) (i : Nat) (h : i < xs.length) : (List.drop i (kY xs))[0]? = some (D.sl (dI .i64 (List.getD xs i [])) (List.getD xs i []).length) := by
 unfold kY
 rw [List.getElem?_drop, Nat.add_zero, List.getElem?_map, List.getElem?_eq_getElem h, List.getD_eq_getElem?_getD, List.getElem?_eq_getElem h]; rfl
theorem gK (xs : List (List Int)) (n : Nat) : List.take (n * 1) (List.drop (0 * 1) (kY xs)) = kY (List.take n xs) := by unfold kY; simp [List.map_take]
def MsW (xs : List (List Int)) : Prop := ∀ l ∈ xs, List.length l ≤ 1000000
theorem MsW.at {xs : List (List Int)} (h : MsW xs) (i : Nat) : List.length (List.getD xs i []) ≤ 1000000 := by
 rw [List.getD_eq_getElem?_getD]
 cases e : xs[i]? with
 | none => exact Nat.zero_le _
 | some l => exact h l (List.mem_of_getElem? e)
theorem MsW.nil : MsW [] := fun l h => by cases h
theorem MsW.snoc {xs : List (List Int)} {l : List Int} (h : MsW xs) (hl : List.length l ≤ 1000000) : MsW (xs ++ [l]) := fun m hm => (List.mem_append.1 hm).elim (h m) fun hm => by
 rw [List.mem_singleton.1 hm]; exact hl
theorem MsW.take {xs : List (List Int)} (h : MsW xs) (n : Nat) : MsW (List.take n xs) := fun m hm => h m (List.mem_of_mem_take hm)
def oJ (xs : List (List Int)) (m : List Int) : Bool := decide (m ∈ xs)
theorem u2b {xs : List (List Int)} {m : List Int} {k : Nat} (hk : k < xs.length) (h : eE (List.getD xs k []) m = true) : oJ xs m = true := by
 have e : List.getD xs k [] = xs[k] := by rw [List.getD_eq_getElem?_getD, List.getElem?_eq_getElem hk]; rfl
 have h1 := u1d h
 rw [e] at h1
 exact decide_eq_true (h1 ▸ List.getElem_mem hk)
theorem u2c {xs : List (List Int)} {m : List Int} (h : ∀ j, j < xs.length → eE (List.getD xs j []) m = false) : oJ xs m = false := by
 refine decide_eq_false fun hm => ?_
 obtain ⟨j, hj, e⟩ := List.mem_iff_getElem.1 hm
 have h1 := u1c (h j hj)
 have e1 : List.getD xs j [] = xs[j] := by rw [List.getD_eq_getElem?_getD, List.getElem?_eq_getElem hj]; rfl
 exact h1 (by rw [e1, e])
def zT (xs : List (List Int)) (i : Nat) : Bool := f9 (List.getD xs i []) (List.getD xs i []).length && !(oJ (List.take i xs) (List.getD xs i []))
def sQ (xs : List (List Int)) : Bool := decide (1 ≤ xs.length ∧ xs.length ≤ 16 ∧ ∀ i, i < xs.length → zT xs i = true)
theorem fT {xs : List (List Int)} (h1 : 1 ≤ xs.length) (h2 : xs.length ≤ 16) (h : ∀ i, i < xs.length → zT xs i = true) : sQ xs = true := decide_eq_true ⟨h1, h2, h⟩
theorem gB {xs : List (List Int)} {k : Nat} (hk : k < xs.length) (h : zT xs k = false) : sQ xs = false := decide_eq_false fun h1 => by
 have := h1.2.2 k hk; rw [h] at this; cases this
theorem gA {xs : List (List Int)} (h : xs.length < 1 ∨ 16 < xs.length) : sQ xs = false := decide_eq_false fun h1 => by omega
theorem k2l {xs : List (List Int)} {i : Nat} (h1 : f9 (List.getD xs i []) (List.getD xs i []).length = true) (h2 : oJ (List.take i xs) (List.getD xs i []) = false) : zT xs i = true := by unfold zT; rw [h1, h2]; rfl
theorem k9r {xs : List (List Int)} {i : Nat} (h1 : f9 (List.getD xs i []) (List.getD xs i []).length = false) : zT xs i = false := by unfold zT; rw [h1]; rfl
theorem k9q {xs : List (List Int)} {i : Nat} (h2 : oJ (List.take i xs) (List.getD xs i []) = true) : zT xs i = false := by unfold zT; rw [h2]; cases f9 (List.getD xs i []) (List.getD xs i []).length <;> rfl
def eS (l : List Int) (n : Nat) (lo hi : Int) : Bool := f6 l n && decide (1 ≤ n ∧ lo ≤ List.getD l 0 0 ∧ List.getD l ((n - 1) * 2 + 1) 0 ≤ hi)
theorem u3t {l : List Int} {n : Nat} {lo hi : Int} (h : f6 l n = true) (h2 : 1 ≤ n ∧ lo ≤ List.getD l 0 0 ∧ List.getD l ((n - 1) * 2 + 1) 0 ≤ hi) : eS l n lo hi = true := by unfold eS; rw [h, decide_eq_true h2]; rfl
theorem u73 {l : List Int} {n : Nat} {lo hi : Int} (h : f6 l n = false) : eS l n lo hi = false := by unfold eS; rw [h]; rfl
theorem u74 {l : List Int} {n : Nat} {lo hi : Int} (h2 : ¬ (1 ≤ n ∧ lo ≤ List.getD l 0 0 ∧ List.getD l ((n - 1) * 2 + 1) 0 ≤ hi)) : eS l n lo hi = false := by unfold eS; rw [decide_eq_false h2]; cases f6 l n <;> rfl
structure Bx where
 k : Int
 r : List Int
 rn : Nat
 m : List (List Int)
 s : List Int
 sn : Nat
def bx0 : Bx := ⟨0, [], 0, [], [], 0⟩
def bxR (b : Bx) : List D := [D.lit (.int .i64 b.k), D.sl (dI .i64 b.r) b.rn, D.sl (kY b.m) b.m.length, D.sl (dI .i64 b.s) b.sn]
def kR : List Bx → List D
 | [] => []
 | b :: r => bxR b ++ kR r
theorem kT : ∀ xs : List Bx, List.length (kR xs) = List.length xs * 4
 | [] => rfl
 | b :: r => by show List.length (bxR b ++ kR r) = (List.length r + 1) * 4; rw [List.length_append, kT r]; show 4 + _ = _; omega
theorem k0v : ∀ a b : List Bx, kR (a ++ b) = kR a ++ kR b
 | [], _ => rfl
 | l :: r, b => by show bxR l ++ kR (r ++ b) = bxR l ++ kR r ++ kR b; rw [k0v r b, List.append_assoc]
theorem wG : ∀ (i : Nat) (xs : List Bx), List.drop (i * 4) (kR xs) = kR (List.drop i xs)
 | 0, _ => rfl
 | i + 1, [] => by simp [kR]
 | i + 1, l :: r => by
  show List.drop ((i + 1) * 4) (bxR l ++ kR r) = kR (List.drop i r)
  rw [show (i + 1) * 4 = 4 + i * 4 by omega, ← List.drop_drop, ← wG i r]; rfl
def vZ (xs : List Bx) (i : Nat) : Bx := List.getD xs i bx0
def vK (xs : List Bx) (i : Nat) : Int := (vZ xs i).k
def vH (xs : List Bx) (i : Nat) : List Int := (vZ xs i).r
def uM (xs : List Bx) (i : Nat) : Nat := (vZ xs i).rn
def kW (xs : List Bx) (i : Nat) : List (List Int) := (vZ xs i).m
def aG (xs : List Bx) (i : Nat) : List Int := (vZ xs i).s
def yW (xs : List Bx) (i : Nat) : Nat := (vZ xs i).sn
theorem k96 {xs : List Bx} {i : Nat} (h : i < List.length xs) : kR (List.drop i xs) = bxR (vZ xs i) ++ kR (List.drop (i + 1) xs) := by
 have e : vZ xs i = xs[i] := by unfold vZ; rw [List.getD_eq_getElem?_getD, List.getElem?_eq_getElem h]; rfl
 rw [List.drop_eq_getElem_cons h, e]; rfl
theorem mL {xs : List Bx} {i : Nat} (h : i < List.length xs) : List.take 4 (List.drop (i * 4) (kR xs)) = [D.lit (.int .i64 (vK xs i)), D.sl (dI .i64 (vH xs i)) (uM xs i), D.sl (kY (kW xs i)) (List.length (kW xs i)), D.sl (dI .i64 (aG xs i)) (yW xs i)] := by
 rw [wG, k96 h]; rfl
def BxW (b : Bx) : Prop := List.length b.r = b.rn * 2 ∧ List.length b.s = b.sn * 2 ∧ b.rn ≤ 1000000 ∧ b.sn ≤ 1000000 ∧ List.length b.m ≤ 1000000 ∧ MsW b.m
def BsW (xs : List Bx) : Prop := ∀ b ∈ xs, BxW b
theorem u6h : BxW bx0 := ⟨rfl, rfl, Nat.zero_le _, Nat.zero_le _, Nat.zero_le _, MsW.nil⟩
theorem BsW.get {xs : List Bx} (h : BsW xs) (i : Nat) : BxW (vZ xs i) := by
 unfold vZ
 rw [List.getD_eq_getElem?_getD]
 cases e : xs[i]? with
 | none => exact u6h
 | some l => exact h l (List.mem_of_getElem? e)
theorem BsW.at {xs : List Bx} (h : BsW xs) (i : Nat) : List.length (vH xs i) = uM xs i * 2 ∧ List.length (aG xs i) = yW xs i * 2 ∧ uM xs i ≤ 1000000 ∧ yW xs i ≤ 1000000 ∧ List.length (kW xs i) ≤ 1000000 := by
 have h1 := h.get i
 exact ⟨h1.1, h1.2.1, h1.2.2.1, h1.2.2.2.1, h1.2.2.2.2.1⟩
theorem i4 {xs : List Bx} (h : BsW xs) (i : Nat) : MsW (kW xs i) := (h.get i).2.2.2.2.2
theorem BsW.take {xs : List Bx} (h : BsW xs) (n : Nat) : BsW (List.take n xs) := fun m hm => h m (List.mem_of_mem_take hm)
theorem BsW.drop {xs : List Bx} (h : BsW xs) (n : Nat) : BsW (List.drop n xs) := fun m hm => h m (List.mem_of_mem_drop hm)
theorem BsW.app {xs ys : List Bx} (h : BsW xs) (h2 : BsW ys) : BsW (xs ++ ys) := fun m hm => (List.mem_append.1 hm).elim (h m) (h2 m)
theorem BsW.nil : BsW [] := fun l h => by cases h
theorem BsW.one {b : Bx} (h : BxW b) : BsW [b] := fun m hm => by rw [List.mem_singleton.1 hm]; exact h
def dX (k : Int) : Int := qR .andNot .i64 k 254
def odV (k : Int) : Int := qR .and .i64 k 1
def kiB (k : Int) (q : Nat) : Bool := decide (1 ≤ q ∧ q ≤ 7 ∧ odV (k / ((2 ^ q : Nat) : Int)) = 1)
def dK (k : Int) (r : List Int) (rn : Nat) (m : List (List Int)) (s : List Int) (sn : Nat) : Bool := decide (¬ k = 0 ∧ dX k = 0) && (eS r rn 1000 768000 && (sQ m && eS s sn 1 65536))
def vbE (xs : List Bx) (i : Nat) : Bool := dK (vK xs i) (vH xs i) (uM xs i) (kW xs i) (aG xs i) (yW xs i)
def iI (xs : List Bx) : Bool := decide (xs.length ≤ 64 ∧ ∀ i, i < xs.length → vbE xs i = true)
theorem k2m {xs : List Bx} (h2 : xs.length ≤ 64) (h : ∀ i, i < xs.length → vbE xs i = true) : iI xs = true := decide_eq_true ⟨h2, h⟩
theorem k76 {xs : List Bx} {k : Nat} (hk : k < xs.length) (h : vbE xs k = false) : iI xs = false := decide_eq_false fun h1 => by
 have := h1.2 k hk; rw [h] at this; cases this
theorem k14 {xs : List Bx} (h : 64 < xs.length) : iI xs = false := decide_eq_false fun h1 => by omega
theorem mJ {k : Int} {r : List Int} {rn : Nat} {m : List (List Int)} {s : List Int} {sn : Nat} (h1 : ¬ k = 0 ∧ dX k = 0) (h2 : eS r rn 1000 768000 = true) (h3 : sQ m = true) (h4 : eS s sn 1 65536 = true) : dK k r rn m s sn = true := by
 unfold dK; rw [h2, h3, h4, decide_eq_true h1]; rfl
theorem nH {k : Int} {r : List Int} {rn : Nat} {m : List (List Int)} {s : List Int} {sn : Nat} (h1 : ¬ (¬ k = 0 ∧ dX k = 0)) : dK k r rn m s sn = false := by
 unfold dK; rw [decide_eq_false h1]; rfl
theorem nG {k : Int} {r : List Int} {rn : Nat} {m : List (List Int)} {s : List Int} {sn : Nat} (h2 : eS r rn 1000 768000 = false) : dK k r rn m s sn = false := by
 unfold dK; rw [h2, Bool.false_and, Bool.and_false]
theorem dJ {k : Int} {r : List Int} {rn : Nat} {m : List (List Int)} {s : List Int} {sn : Nat} (h3 : sQ m = false) : dK k r rn m s sn = false := by
 unfold dK; rw [h3, Bool.false_and, Bool.and_false, Bool.and_false]
theorem nF {k : Int} {r : List Int} {rn : Nat} {m : List (List Int)} {s : List Int} {sn : Nat} (h4 : eS s sn 1 65536 = false) : dK k r rn m s sn = false := by
 unfold dK; rw [h4, Bool.and_false, Bool.and_false, Bool.and_false]
def bxL (xs : List Bx) : List Bx := if iI xs = true then xs else []
theorem u6g {xs : List Bx} (h : iI xs = true) : bxL xs = xs := if_pos h
theorem hX {p : Prop} (h : p := by first | omega | assumption | simp) : p := h
theorem wX {p : Prop} (h : p := by first | omega | (simp only [kU, kT, List.length_append, List.length_cons, List.length_nil, List.length_take, List.length_drop] <;> omega)) : p := h
theorem yN {p : Prop} (h : p := by first | omega | with_reducible assumption | (simp only [kU, kT, List.length_append, List.length_cons, List.length_nil, List.length_take, List.length_drop, List.length_replicate, List.length_set] <;> omega) | rfl | assumption) : p := h
theorem k6j (ms : List (List Int)) (c : Nat) (m : List Int) (n : Nat) (hc : List.length ms = c) (hn : List.length m = n) (h1 : c ≤ 1000000) (h2 : n ≤ 1000000) (hW : MsW ms) : Fun 65 [.c (.d (D.sl (kY ms) c)), .c (.d (D.sl (dI .i64 m) n))] (kF []) 0 (kS (D.lit (.bool (oJ ms m)))) (kF []) 0 := by
 refine Fun.mk (n := 17) Try.func65 rfl rfl (Nat.le_of_ble_eq_true rfl) ?_
 intro cx hcx
 refine kI [.no] True [(0, qP (kY ms) c), (1, sV .i64 m n)] [] 0 trivial ?_
 refine AW.seq ?_
 refine k8 [.no, .no, .no] True [(1, sV .i64 m n), (7, qP (kY ms) c), (8, uV c), (9, iV 0)] trivial ?_
 refine AW.block ?_
 refine kX 0 hcx (fun (x : {x : Nat // match x with | k => (k ≤ c) ∧ (∀ j, j < k → eE (List.getD ms j []) m = false)}) => match x with | ⟨k, _⟩ => (⟨[(1, sV .i64 m n), (7, qP (kY ms) c), (8, uV c), (9, uV k)], [], 0⟩ : ES)) (fun x => match x with | ⟨k, _⟩ => c - k) ⟨(0 : Nat), ⟨hX, (fun j hj => absurd hj (Nat.not_lt_zero j))⟩⟩ [] (P := (kZ (dI .i64 m)) ∧ (kP n) ∧ (kZ (kY ms)) ∧ (kP c) ∧ (kN (c : Int)) ∧ (kN 0)) zk ⟨rfl, rfl, rfl, rfl, rfl, rfl⟩ ?_
 rintro ⟨k, hinv0⟩
 obtain ⟨hk, ha⟩ : (k ≤ c) ∧ (∀ j, j < k → eE (List.getD ms j []) m = false) := hinv0
 refine qU (l := [(1, sV .i64 m n), (7, qP (kY ms) c), (8, uV c), (9, uV k)]) (g := []) (nx := 0) rfl rfl rfl ?_
 by_cases hx1 : (((k : Nat) : Int) < ((c : Nat) : Int))
 ·refine kI [.b true] (((k : Int) < (c : Int))) [(1, sV .i64 m n), (7, qP (kY ms) c), (8, uV c), (9, uV k), (10, bV true)] [] 0 zo ?_
  refine AW.seq ?_
  refine vD ?_
  refine AW.seq ?_
  refine AW.block ?_
  have hx2 : ((List.length (List.getD ms k ([] : List Int))) ≤ 1000000) := MsW.at (kQ : MsW ms) _
  refine k8 [.n k, .d (dl (List.getD ms k ([] : List Int)) (List.length (List.getD ms k ([] : List Int)))), .no] ((kN (k : Int)) ∧ (k < c) ∧ ((List.drop k (kY ms))[0]? = some (dl (List.getD ms k ([] : List Int)) (List.length (List.getD ms k ([] : List Int)))))) [(1, sV .i64 m n), (6, sV .i64 (List.getD ms k ([] : List Int)) (List.length (List.getD ms k ([] : List Int)))), (7, qP (kY ms) c), (8, uV c), (9, uV k)] ⟨rfl, zo, (cE _ _ wX)⟩ ?_
  rcases Bool.eq_false_or_eq_true (eE (List.getD ms k ([] : List Int)) m) with hx3 | hx3
  ·refine k8 [.no, .no, .call [] (bV true) [] 0 [] none] (Fun 79 [.c (.d (dl (List.getD ms k ([] : List Int)) (List.length (List.getD ms k ([] : List Int))))), .c (.d (dl m n))] (kF []) 0 (bV true) (kF []) 0) [(1, sV .i64 m n), (7, qP (kY ms) c), (8, uV c), (9, uV k), (15, bV true)] (by have h0 := (k0y (List.getD ms k ([] : List Int)) m (List.length (List.getD ms k ([] : List Int))) n rfl zo yN zo); rw [hx3] at h0; exact h0) ?_
   refine zt ?_
   refine k8 [.no] True [(4, bV true)] trivial ?_
   refine AW.ret ?_
   exact kC (.inr rfl) [] (P := ((oJ ms m) = true)) zk (by first | exact u2b (k := k) zo (by assumption) | exact u2c (fun j hj => ha j zo))
  ·refine k8 [.no, .no, .call [] (bV false) [] 0 [] none] (Fun 79 [.c (.d (dl (List.getD ms k ([] : List Int)) (List.length (List.getD ms k ([] : List Int))))), .c (.d (dl m n))] (kF []) 0 (bV false) (kF []) 0) [(1, sV .i64 m n), (7, qP (kY ms) c), (8, uV c), (9, uV k), (15, bV false)] (by have h0 := (k0y (List.getD ms k ([] : List Int)) m (List.length (List.getD ms k ([] : List Int))) n rfl zo yN zo); rw [hx3] at h0; exact h0) ?_
   refine yC ?_
   refine yD [.w, .no] (qJ ((k : Int) + 1)) [(1, sV .i64 m n), (7, qP (kY ms) c), (8, uV c), (9, iV (↑k + 1))] ⟨by omega, by omega⟩ ?_
   exact qE ⟨((k + 1) : Nat), ⟨hX, (fun j hj => (Nat.lt_succ_iff_lt_or_eq.1 hj).elim (ha j) (fun e9 => by subst e9; assumption))⟩⟩ [] (P := (kZ (dI .i64 m)) ∧ (kP n) ∧ (kZ (kY ms)) ∧ (kP c) ∧ (kN (c : Int)) ∧ (((((k + 1) : Nat) : Int) : Int) = ((k : Int) + 1))) zk ⟨rfl, rfl, rfl, rfl, rfl, (by first | rfl | omega | assumption | (simp; done) | (simp; omega))⟩ (show c - (k + 1) < c - k from (by first | omega | (show _ < _; simp; omega)))
 ·refine kI [.b false] (¬ ((k : Int) < (c : Int))) [(1, sV .i64 m n), (7, qP (kY ms) c), (8, uV c), (9, uV k), (10, bV false)] [] 0 zo ?_
  refine AW.seq ?_
  refine zf ?_
  refine AW.exit ?_
  refine kI [.no] True [(4, bV false)] [] 0 trivial ?_
  refine AW.ret ?_
  exact kC (.inr rfl) [] (P := ((oJ ms m) = false)) zk (by first | exact u2b (k := k) zo (by assumption) | exact u2c (fun j hj => ha j zo))
theorem b7 {p : Prop} (h : p := by first | (rw [List.drop_drop]; exact qW _ _ _ (by first | omega | (simp only [kU, kT, qM, List.length_append, List.length_cons, List.length_nil, List.length_take, List.length_drop, List.length_replicate, List.length_set, List.length_map, List.length_reverse, Nat.mul_one] <;> omega) | rfl)) | (rw [List.drop_drop, Nat.add_comm]; exact qW _ _ _ (by first | omega | (simp only [kU, kT, qM, List.length_append, List.length_cons, List.length_nil, List.length_take, List.length_drop, List.length_replicate, List.length_set, List.length_map, List.length_reverse, Nat.mul_one] <;> omega) | rfl))) : p := h
theorem b6 {p : Prop} (h : p := by first | exact u3t (by assumption) (by omega) | exact u73 (by assumption) | exact u74 (by omega)) : p := h
theorem eP (l : List Int) (n : Nat) (lo hi : Int) (hl : List.length l = n * 2) (hb : n ≤ 1000000) : Fun 66 [.agg [.d (D.sl (dI .i64 l) n)], iE lo, iE hi] (kF []) 0 (kS (D.lit (.bool (eS l n lo hi)))) (kF []) 0 := by
 refine Fun.mk (n := 37) Try.func66 rfl rfl (Nat.le_of_ble_eq_true rfl) ?_
 intro cx hcx
 refine kI [.no, .no] True [(1, iV lo), (2, iV hi), (3, rV 0 0)] [(0, some (44, .ds [dl l n]))] 1 trivial ?_
 refine k8 (kJ 4 []) True [(1, iV lo), (2, iV hi), (3, rV 0 0), (7, uV n)] trivial ?_
 rcases Bool.eq_false_or_eq_true (f6 l n) with hx1 | hx1
 ·by_cases hx2 : ((0 : Int) < ((n : Nat) : Int))
  ·by_cases hx3 : (lo ≤ (List.getD l 0 0))
   ·by_cases hx4 : ((List.getD l (((n - 1) * 2) + 1) 0) ≤ hi)
    ·refine kI (.no :: .call [] (bV true) [] 0 [] none :: .no :: .no :: .b true :: kJ 4 (.n 0 :: .no :: .d (D.lit (.int .i64 (List.getD l 0 0))) :: .no :: .b true :: kJ 5 [.w, .n (n - 1), .no, .d (D.lit (.int .i64 (List.getD l (((n - 1) * 2) + 1) 0))), .no, .b true, .no, .no])) ((Fun 80 [.agg [.d (dl l n)]] (kF []) 0 (bV true) (kF []) 0) ∧ (((0 : Int) < (n : Int))) ∧ (kN 0) ∧ ((0 : Nat) < n) ∧ ((List.drop 0 (List.drop 0 (dI .i64 l)))[0]? = some (D.lit (.int .i64 (List.getD l 0 0)))) ∧ ((lo ≤ (List.getD l 0 0))) ∧ (qJ ((n : Int) - 1)) ∧ ((((n : Int) - 1) : Int) = (((n - 1) : Nat) : Int)) ∧ ((n - 1) < n) ∧ ((List.drop 1 (List.drop ((n - 1) * 2) (dI .i64 l)))[0]? = some (D.lit (.int .i64 (List.getD l (((n - 1) * 2) + 1) 0)))) ∧ (((List.getD l (((n - 1) * 2) + 1) 0) ≤ hi))) [(6, bV true)] [] 1 ⟨(by have h0 := (eQ l n zo zo); rw [hx1] at h0; exact h0), zo, rfl, zo, b7, zo, ⟨by omega, by omega⟩, (by first | rfl | omega), zo, b7, zo⟩ ?_
     refine AW.ret ?_
     exact kC (.inr rfl) [] (P := ((eS l n lo hi) = true)) zk b6
    ·refine kI (.no :: .call [] (bV true) [] 0 [] none :: .no :: .no :: .b true :: kJ 4 (.n 0 :: .no :: .d (D.lit (.int .i64 (List.getD l 0 0))) :: .no :: .b true :: kJ 5 [.w, .n (n - 1), .no, .d (D.lit (.int .i64 (List.getD l (((n - 1) * 2) + 1) 0))), .no, .b false, .no, .no])) ((Fun 80 [.agg [.d (dl l n)]] (kF []) 0 (bV true) (kF []) 0) ∧ (((0 : Int) < (n : Int))) ∧ (kN 0) ∧ ((0 : Nat) < n) ∧ ((List.drop 0 (List.drop 0 (dI .i64 l)))[0]? = some (D.lit (.int .i64 (List.getD l 0 0)))) ∧ ((lo ≤ (List.getD l 0 0))) ∧ (qJ ((n : Int) - 1)) ∧ ((((n : Int) - 1) : Int) = (((n - 1) : Nat) : Int)) ∧ ((n - 1) < n) ∧ ((List.drop 1 (List.drop ((n - 1) * 2) (dI .i64 l)))[0]? = some (D.lit (.int .i64 (List.getD l (((n - 1) * 2) + 1) 0)))) ∧ (¬ ((List.getD l (((n - 1) * 2) + 1) 0) ≤ hi))) [(6, bV false)] [] 1 ⟨(by have h0 := (eQ l n zo zo); rw [hx1] at h0; exact h0), zo, rfl, zo, b7, zo, ⟨by omega, by omega⟩, (by first | rfl | omega), zo, b7, zo⟩ ?_
     refine AW.ret ?_
     exact kC (.inr rfl) [] (P := ((eS l n lo hi) = false)) zk b6
   ·refine kI (.no :: .call [] (bV true) [] 0 [] none :: .no :: .no :: .b true :: kJ 4 (.n 0 :: .no :: .d (D.lit (.int .i64 (List.getD l 0 0))) :: .no :: .b false :: kJ 4 [])) ((Fun 80 [.agg [.d (dl l n)]] (kF []) 0 (bV true) (kF []) 0) ∧ (((0 : Int) < (n : Int))) ∧ (kN 0) ∧ ((0 : Nat) < n) ∧ ((List.drop 0 (List.drop 0 (dI .i64 l)))[0]? = some (D.lit (.int .i64 (List.getD l 0 0)))) ∧ (¬ (lo ≤ (List.getD l 0 0)))) [(6, bV false)] [] 1 ⟨(by have h0 := (eQ l n zo zo); rw [hx1] at h0; exact h0), zo, rfl, zo, b7, zo⟩ ?_
    refine AW.ret ?_
    exact kC (.inr rfl) [] (P := ((eS l n lo hi) = false)) zk b6
  ·refine kI (.no :: .call [] (bV true) [] 0 [] none :: .no :: .no :: .b false :: kJ 6 []) ((Fun 80 [.agg [.d (dl l n)]] (kF []) 0 (bV true) (kF []) 0) ∧ (¬ ((0 : Int) < (n : Int)))) [(6, bV false)] [] 1 ⟨(by have h0 := (eQ l n zo zo); rw [hx1] at h0; exact h0), zo⟩ ?_
   refine AW.ret ?_
   exact kC (.inr rfl) [] (P := ((eS l n lo hi) = false)) zk b6
 ·refine kI (.no :: .call [] (bV false) [] 0 [] none :: kJ 7 []) (Fun 80 [.agg [.d (dl l n)]] (kF []) 0 (bV false) (kF []) 0) [(6, bV false)] [] 1 (by have h0 := (eQ l n zo zo); rw [hx1] at h0; exact h0) ?_
  refine AW.ret ?_
  exact kC (.inr rfl) [] (P := ((eS l n lo hi) = false)) zk b6
theorem i0 (l : List Int) (n : Nat) (lo hi : Int) (hl : List.length l = n * 2) (hb : n ≤ 1000000) : Fun 62 [.agg [.d (D.sl (dI .i64 l) n)], iE lo, iE hi] (kF []) 0 (kS (D.lit (.bool (eS l n lo hi)))) (kF []) 0 := by
 refine Fun.mk (n := 37) Try.func62 rfl rfl (Nat.le_of_ble_eq_true rfl) ?_
 intro cx hcx
 refine kI [.no, .no] True [(1, iV lo), (2, iV hi), (3, rV 0 0)] [(0, some (44, .ds [dl l n]))] 1 trivial ?_
 refine k8 [.no, .no, .no, .w, .no] (qJ ((n : Int) - 1)) [(1, iV lo), (2, iV hi), (3, rV 0 0), (7, iV (↑n - 1))] ⟨by omega, by omega⟩ ?_
 by_cases hx1 : ((0 : Int) ≤ (((n : Nat) : Int) - 1))
 ·rcases Bool.eq_false_or_eq_true (f6 l n) with hx2 | hx2
  ·by_cases hx3 : (lo ≤ (List.getD l 0 0))
   ·by_cases hx4 : ((List.getD l (((n - 1) * 2) + 1) 0) ≤ hi)
    ·refine kI (.no :: .b true :: .no :: .no :: .call [] (bV true) [] 0 [] none :: kJ 4 (.n 0 :: .no :: .d (D.lit (.int .i64 (List.getD l 0 0))) :: .no :: .b true :: kJ 5 [.n (n - 1), .no, .d (D.lit (.int .i64 (List.getD l (((n - 1) * 2) + 1) 0))), .no, .b true, .no, .no])) ((((0 : Int) ≤ ((n : Int) - 1))) ∧ (Fun 75 [.agg [.d (dl l n)]] (kF []) 0 (bV true) (kF []) 0) ∧ (kN 0) ∧ ((0 : Nat) < n) ∧ ((List.drop 0 (List.drop 0 (dI .i64 l)))[0]? = some (D.lit (.int .i64 (List.getD l 0 0)))) ∧ ((lo ≤ (List.getD l 0 0))) ∧ ((((n : Int) - 1) : Int) = (((n - 1) : Nat) : Int)) ∧ ((n - 1) < n) ∧ ((List.drop 1 (List.drop ((n - 1) * 2) (dI .i64 l)))[0]? = some (D.lit (.int .i64 (List.getD l (((n - 1) * 2) + 1) 0)))) ∧ (((List.getD l (((n - 1) * 2) + 1) 0) ≤ hi))) [(6, bV true)] [] 1 ⟨zo, (by have h0 := (j0 l n zo zo); rw [hx2] at h0; exact h0), rfl, zo, b7, zo, (by first | rfl | omega), zo, b7, zo⟩ ?_
     refine AW.ret ?_
     exact kC (.inr rfl) [] (P := ((eS l n lo hi) = true)) zk b6
    ·refine kI (.no :: .b true :: .no :: .no :: .call [] (bV true) [] 0 [] none :: kJ 4 (.n 0 :: .no :: .d (D.lit (.int .i64 (List.getD l 0 0))) :: .no :: .b true :: kJ 5 [.n (n - 1), .no, .d (D.lit (.int .i64 (List.getD l (((n - 1) * 2) + 1) 0))), .no, .b false, .no, .no])) ((((0 : Int) ≤ ((n : Int) - 1))) ∧ (Fun 75 [.agg [.d (dl l n)]] (kF []) 0 (bV true) (kF []) 0) ∧ (kN 0) ∧ ((0 : Nat) < n) ∧ ((List.drop 0 (List.drop 0 (dI .i64 l)))[0]? = some (D.lit (.int .i64 (List.getD l 0 0)))) ∧ ((lo ≤ (List.getD l 0 0))) ∧ ((((n : Int) - 1) : Int) = (((n - 1) : Nat) : Int)) ∧ ((n - 1) < n) ∧ ((List.drop 1 (List.drop ((n - 1) * 2) (dI .i64 l)))[0]? = some (D.lit (.int .i64 (List.getD l (((n - 1) * 2) + 1) 0)))) ∧ (¬ ((List.getD l (((n - 1) * 2) + 1) 0) ≤ hi))) [(6, bV false)] [] 1 ⟨zo, (by have h0 := (j0 l n zo zo); rw [hx2] at h0; exact h0), rfl, zo, b7, zo, (by first | rfl | omega), zo, b7, zo⟩ ?_
     refine AW.ret ?_
     exact kC (.inr rfl) [] (P := ((eS l n lo hi) = false)) zk b6
   ·refine kI (.no :: .b true :: .no :: .no :: .call [] (bV true) [] 0 [] none :: kJ 4 (.n 0 :: .no :: .d (D.lit (.int .i64 (List.getD l 0 0))) :: .no :: .b false :: kJ 4 [])) ((((0 : Int) ≤ ((n : Int) - 1))) ∧ (Fun 75 [.agg [.d (dl l n)]] (kF []) 0 (bV true) (kF []) 0) ∧ (kN 0) ∧ ((0 : Nat) < n) ∧ ((List.drop 0 (List.drop 0 (dI .i64 l)))[0]? = some (D.lit (.int .i64 (List.getD l 0 0)))) ∧ (¬ (lo ≤ (List.getD l 0 0)))) [(6, bV false)] [] 1 ⟨zo, (by have h0 := (j0 l n zo zo); rw [hx2] at h0; exact h0), rfl, zo, b7, zo⟩ ?_
    refine AW.ret ?_
    exact kC (.inr rfl) [] (P := ((eS l n lo hi) = false)) zk b6
  ·refine kI (.no :: .b true :: .no :: .no :: .call [] (bV false) [] 0 [] none :: kJ 6 []) ((((0 : Int) ≤ ((n : Int) - 1))) ∧ (Fun 75 [.agg [.d (dl l n)]] (kF []) 0 (bV false) (kF []) 0)) [(6, bV false)] [] 1 ⟨zo, (by have h0 := (j0 l n zo zo); rw [hx2] at h0; exact h0)⟩ ?_
   refine AW.ret ?_
   exact kC (.inr rfl) [] (P := ((eS l n lo hi) = false)) zk b6
 ·refine kI (.no :: .b false :: kJ 7 []) (¬ ((0 : Int) ≤ ((n : Int) - 1))) [(6, bV false)] [] 1 zo ?_
  refine AW.ret ?_
  exact kC (.inr rfl) [] (P := ((eS l n lo hi) = false)) zk b6
theorem cZ {p : Prop} (h : p := by first | exact k9r (by assumption) | exact k9q (by assumption)) : p := h
abbrev lK (k : Int) (r : List Int) (rn : Nat) (m : List (List Int)) (c : Nat) (s : List Int) (sn : Nat) : BC := .ds [iD k, D.sl (dI .i64 r) rn, D.sl (kY m) c, D.sl (dI .i64 s) sn]
theorem u0r (k : Int) (r : List Int) (rn : Nat) (m : List (List Int)) (c : Nat) (s : List Int) (sn : Nat) (hr : List.length r = rn * 2) (hs : List.length s = sn * 2) (hc : List.length m = c) (h1 : rn ≤ 1000000) (h2 : sn ≤ 1000000) (h3 : c ≤ 1000000) (hW : MsW m) : Fun 51 [.agg [iC k, .d (D.sl (dI .i64 r) rn), .d (D.sl (kY m) c), .d (D.sl (dI .i64 s) sn)]] (kF []) 0 (kS (D.lit (.bool (dK k r rn m s sn)))) (kF []) 0 := by
 refine Fun.mk (n := 54) Try.func51 rfl rfl (Nat.le_of_ble_eq_true rfl) ?_
 intro cx hcx
 refine kI [.no, .no] True [(1, rV 0 0)] [(0, some (47, (lK k r rn m c s sn)))] 1 trivial ?_
 refine AW.seq ?_
 by_cases hx1 : (k = 0)
 ·refine k8 (.no :: .no :: .b true :: kJ 6 []) ((k = 0)) [(1, rV 0 0), (25, bV true)] zo ?_
  refine zt ?_
  refine kI [.no] True [(2, bV false)] [] 1 trivial ?_
  refine AW.ret ?_
  exact kC (.inr rfl) [] (P := ((dK k r rn m s sn) = false)) zk (by first | exact mJ zo (by assumption) (fT zo zo (fun j hj => ha j zo)) (by assumption) | exact nH zo | exact dJ (gA zo) | exact dJ (gB (k := i) zo cZ) | exact nG (by assumption) | exact nF (by assumption))
 ·by_cases hx2 : ((dX k) ≠ 0)
  ·refine k8 [.no, .no, .b false, .no, .no, .no, .i (dX k), .b true, .no, .no, .no, .no, .no] ((¬ (k = 0)) ∧ (qR .andNot .i64 k 254 = (dX k)) ∧ (((dX k) ≠ 0))) [(1, rV 0 0), (25, bV true)] ⟨zo, rfl, zo⟩ ?_
   refine zt ?_
   refine kI [.no] True [(2, bV false)] [] 1 trivial ?_
   refine AW.ret ?_
   exact kC (.inr rfl) [] (P := ((dK k r rn m s sn) = false)) zk (by first | exact mJ zo (by assumption) (fT zo zo (fun j hj => ha j zo)) (by assumption) | exact nH zo | exact dJ (gA zo) | exact dJ (gB (k := i) zo cZ) | exact nG (by assumption) | exact nF (by assumption))
  ·by_cases hx3 : (((c : Nat) : Int) < 1)
   ·refine k8 (.no :: .no :: .b false :: .no :: .no :: .no :: .i (dX k) :: .b false :: kJ 5 [.b true, .no, .no, .no]) ((¬ (k = 0)) ∧ (qR .andNot .i64 k 254 = (dX k)) ∧ (¬ ((dX k) ≠ 0)) ∧ (((c : Int) < 1))) [(1, rV 0 0), (25, bV true)] ⟨zo, rfl, zo, zo⟩ ?_
    refine zt ?_
    refine kI [.no] True [(2, bV false)] [] 1 trivial ?_
    refine AW.ret ?_
    exact kC (.inr rfl) [] (P := ((dK k r rn m s sn) = false)) zk (by first | exact mJ zo (by assumption) (fT zo zo (fun j hj => ha j zo)) (by assumption) | exact nH zo | exact dJ (gA zo) | exact dJ (gB (k := i) zo cZ) | exact nG (by assumption) | exact nF (by assumption))
   ·by_cases hx4 : ((16 : Int) < ((c : Nat) : Int))
    ·refine k8 (.no :: .no :: .b false :: .no :: .no :: .no :: .i (dX k) :: .b false :: kJ 5 (.b false :: kJ 5 [.b true, .no])) ((¬ (k = 0)) ∧ (qR .andNot .i64 k 254 = (dX k)) ∧ (¬ ((dX k) ≠ 0)) ∧ (¬ ((c : Int) < 1)) ∧ (((16 : Int) < (c : Int)))) [(1, rV 0 0), (25, bV true)] ⟨zo, rfl, zo, zo, zo⟩ ?_
     refine zt ?_
     refine kI [.no] True [(2, bV false)] [] 1 trivial ?_
     refine AW.ret ?_
     exact kC (.inr rfl) [] (P := ((dK k r rn m s sn) = false)) zk (by first | exact mJ zo (by assumption) (fT zo zo (fun j hj => ha j zo)) (by assumption) | exact nH zo | exact dJ (gA zo) | exact dJ (gB (k := i) zo cZ) | exact nG (by assumption) | exact nF (by assumption))
    ·refine k8 (.no :: .no :: .b false :: .no :: .no :: .no :: .i (dX k) :: .b false :: kJ 5 (.b false :: kJ 5 [.b false, .no])) ((¬ (k = 0)) ∧ (qR .andNot .i64 k 254 = (dX k)) ∧ (¬ ((dX k) ≠ 0)) ∧ (¬ ((c : Int) < 1)) ∧ (¬ ((16 : Int) < (c : Int)))) [(1, rV 0 0), (25, bV false)] ⟨zo, rfl, zo, zo, zo⟩ ?_
     refine yC ?_
     refine AW.seq ?_
     refine k8 (kJ 4 []) True [(1, rV 0 0), (27, qP (kY m) c), (28, uV c), (29, iV 0)] trivial ?_
     refine AW.block ?_
     refine kX 0 hcx (fun (x : {x : Nat // match x with | i => (i ≤ c) ∧ (∀ j, j < i → zT m j = true)}) => match x with | ⟨i, _⟩ => (⟨[(1, rV 0 0), (27, qP (kY m) c), (28, uV c), (29, uV i)], [(0, some (47, (lK k r rn m c s sn)))], 1⟩ : ES)) (fun x => match x with | ⟨i, _⟩ => c - i) ⟨(0 : Nat), ⟨hX, (fun j hj => absurd hj (Nat.not_lt_zero j))⟩⟩ [] (P := (kP 0) ∧ (kZ (kY m)) ∧ (kP c) ∧ (kN (c : Int)) ∧ (kN 0) ∧ (kZ [iD k, dl r rn, D.sl (kY m) c, dl s sn])) zk ⟨rfl, rfl, rfl, rfl, rfl, rfl⟩ ?_
     rintro ⟨i, hinv0⟩
     obtain ⟨hi, ha⟩ : (i ≤ c) ∧ (∀ j, j < i → zT m j = true) := hinv0
     refine qU (l := [(1, rV 0 0), (27, qP (kY m) c), (28, uV c), (29, uV i)]) (g := [(0, some (47, (lK k r rn m c s sn)))]) (nx := 1) rfl rfl rfl ?_
     by_cases hx5 : (((i : Nat) : Int) < ((c : Nat) : Int))
     ·refine kI [.b true] (((i : Int) < (c : Int))) [(1, rV 0 0), (27, qP (kY m) c), (28, uV c), (29, uV i), (30, bV true)] [(0, some (47, (lK k r rn m c s sn)))] 1 zo ?_
      refine AW.seq ?_
      refine vD ?_
      refine AW.seq ?_
      refine AW.block ?_
      have hx6 : ((List.length (List.getD m i ([] : List Int))) ≤ 1000000) := MsW.at (kQ : MsW m) _
      refine k8 [.no, .n i, .d (dl (List.getD m i ([] : List Int)) (List.length (List.getD m i ([] : List Int)))), .no, .no] ((kN (i : Int)) ∧ (i < c) ∧ ((List.drop i (kY m))[0]? = some (dl (List.getD m i ([] : List Int)) (List.length (List.getD m i ([] : List Int)))))) [(1, rV 0 0), (3, uV i), (4, sV .i64 (List.getD m i ([] : List Int)) (List.length (List.getD m i ([] : List Int)))), (27, qP (kY m) c), (28, uV c), (29, uV i)] ⟨rfl, zo, (cE _ _ wX)⟩ ?_
      rcases Bool.eq_false_or_eq_true (f9 (List.getD m i ([] : List Int)) (List.length (List.getD m i ([] : List Int)))) with hx7 | hx7
      ·rcases Bool.eq_false_or_eq_true (oJ (List.take i m) (List.getD m i ([] : List Int))) with hx8 | hx8
       ·refine k8 (.no :: .call [] (bV true) [] 0 [] none :: kJ 5 [.sls 0 i i (kY (List.take i m)), .no, .call [] (bV true) [] 0 [] none, .no]) ((Fun 64 [.c (.d (dl (List.getD m i ([] : List Int)) (List.length (List.getD m i ([] : List Int)))))] (kF []) 0 (bV true) (kF []) 0) ∧ (kP 0) ∧ (kN (i : Int)) ∧ ((0 : Nat) ≤ i) ∧ (i ≤ c) ∧ (i - 0 = i) ∧ (List.take (i * 1) (List.drop (0 * 1) (kY m)) = (kY (List.take i m))) ∧ (Fun 65 [.c (.d (D.sl (kY (List.take i m)) i)), .c (.d (dl (List.getD m i ([] : List Int)) (List.length (List.getD m i ([] : List Int)))))] (kF []) 0 (bV true) (kF []) 0)) [(1, rV 0 0), (27, qP (kY m) c), (28, uV c), (29, uV i), (44, bV true)] ⟨(by have h0 := (mN (List.getD m i ([] : List Int)) (List.length (List.getD m i ([] : List Int))) rfl yN); rw [hx7] at h0; exact h0), rfl, rfl, zo, zo, zo, (gK _ _), (by have h0 := (k6j (List.take i m) i (List.getD m i ([] : List Int)) (List.length (List.getD m i ([] : List Int))) yN rfl zo yN (MsW.take (kQ : MsW m) _)); rw [hx8] at h0; exact h0)⟩ ?_
        refine zt ?_
        refine kI [.no] True [(2, bV false)] [] 1 trivial ?_
        refine AW.ret ?_
        exact kC (.inr rfl) [] (P := ((dK k r rn m s sn) = false)) zk (by first | exact mJ zo (by assumption) (fT zo zo (fun j hj => ha j zo)) (by assumption) | exact nH zo | exact dJ (gA zo) | exact dJ (gB (k := i) zo cZ) | exact nG (by assumption) | exact nF (by assumption))
       ·refine k8 (.no :: .call [] (bV true) [] 0 [] none :: kJ 5 [.sls 0 i i (kY (List.take i m)), .no, .call [] (bV false) [] 0 [] none, .no]) ((Fun 64 [.c (.d (dl (List.getD m i ([] : List Int)) (List.length (List.getD m i ([] : List Int)))))] (kF []) 0 (bV true) (kF []) 0) ∧ (kP 0) ∧ (kN (i : Int)) ∧ ((0 : Nat) ≤ i) ∧ (i ≤ c) ∧ (i - 0 = i) ∧ (List.take (i * 1) (List.drop (0 * 1) (kY m)) = (kY (List.take i m))) ∧ (Fun 65 [.c (.d (D.sl (kY (List.take i m)) i)), .c (.d (dl (List.getD m i ([] : List Int)) (List.length (List.getD m i ([] : List Int)))))] (kF []) 0 (bV false) (kF []) 0)) [(1, rV 0 0), (27, qP (kY m) c), (28, uV c), (29, uV i), (44, bV false)] ⟨(by have h0 := (mN (List.getD m i ([] : List Int)) (List.length (List.getD m i ([] : List Int))) rfl yN); rw [hx7] at h0; exact h0), rfl, rfl, zo, zo, zo, (gK _ _), (by have h0 := (k6j (List.take i m) i (List.getD m i ([] : List Int)) (List.length (List.getD m i ([] : List Int))) yN rfl zo yN (MsW.take (kQ : MsW m) _)); rw [hx8] at h0; exact h0)⟩ ?_
        refine yC ?_
        refine yD [.w, .no] (qJ ((i : Int) + 1)) [(1, rV 0 0), (27, qP (kY m) c), (28, uV c), (29, iV (↑i + 1))] ⟨by omega, by omega⟩ ?_
        exact qE ⟨((i + 1) : Nat), ⟨hX, (fun j hj => (Nat.lt_succ_iff_lt_or_eq.1 hj).elim (ha j) (fun e9 => by subst e9; exact k2l (by assumption) (by assumption)))⟩⟩ [] (P := (kP 0) ∧ (kZ (kY m)) ∧ (kP c) ∧ (kN (c : Int)) ∧ (((((i + 1) : Nat) : Int) : Int) = ((i : Int) + 1)) ∧ (kZ [iD k, dl r rn, D.sl (kY m) c, dl s sn])) zk ⟨rfl, rfl, rfl, rfl, (by first | rfl | omega | assumption | (simp; done) | (simp; omega)), rfl⟩ (show c - (i + 1) < c - i from (by first | omega | (show _ < _; simp; omega)))
      ·refine k8 [.no, .call [] (bV false) [] 0 [] none, .no, .no, .no] (Fun 64 [.c (.d (dl (List.getD m i ([] : List Int)) (List.length (List.getD m i ([] : List Int)))))] (kF []) 0 (bV false) (kF []) 0) [(1, rV 0 0), (27, qP (kY m) c), (28, uV c), (29, uV i), (44, bV true)] (by have h0 := (mN (List.getD m i ([] : List Int)) (List.length (List.getD m i ([] : List Int))) rfl yN); rw [hx7] at h0; exact h0) ?_
       refine zt ?_
       refine kI [.no] True [(2, bV false)] [] 1 trivial ?_
       refine AW.ret ?_
       exact kC (.inr rfl) [] (P := ((dK k r rn m s sn) = false)) zk (by first | exact mJ zo (by assumption) (fT zo zo (fun j hj => ha j zo)) (by assumption) | exact nH zo | exact dJ (gA zo) | exact dJ (gB (k := i) zo cZ) | exact nG (by assumption) | exact nF (by assumption))
     ·refine kI [.b false] (¬ ((i : Int) < (c : Int))) [(1, rV 0 0), (27, qP (kY m) c), (28, uV c), (29, uV i), (30, bV false)] [(0, some (47, (lK k r rn m c s sn)))] 1 zo ?_
      refine AW.seq ?_
      refine zf ?_
      refine AW.exit ?_
      rcases Bool.eq_false_or_eq_true (eS r rn 1000 768000) with hx9 | hx9
      ·rcases Bool.eq_false_or_eq_true (eS s sn 1 65536) with hx10 | hx10
       ·refine kI [.no, .no, .call [] (bV true) [] 0 [] none, .no, .no, .no, .call [] (bV true) [] 0 [] none, .no, .no] ((Fun 66 [.agg [.d (dl r rn)], iE 1000, iE 768000] (kF []) 0 (bV true) (kF []) 0) ∧ (Fun 66 [.agg [.d (dl s sn)], iE 1, iE 65536] (kF []) 0 (bV true) (kF []) 0)) [(2, bV true)] [] 1 ⟨(by have h0 := (eP r rn 1000 768000 zo zo); rw [hx9] at h0; exact h0), (by have h0 := (eP s sn 1 65536 zo zo); rw [hx10] at h0; exact h0)⟩ ?_
        refine AW.ret ?_
        exact kC (.inr rfl) [] (P := ((dK k r rn m s sn) = true)) zk (by first | exact mJ zo (by assumption) (fT zo zo (fun j hj => ha j zo)) (by assumption) | exact nH zo | exact dJ (gA zo) | exact dJ (gB (k := i) zo cZ) | exact nG (by assumption) | exact nF (by assumption))
       ·refine kI [.no, .no, .call [] (bV true) [] 0 [] none, .no, .no, .no, .call [] (bV false) [] 0 [] none, .no, .no] ((Fun 66 [.agg [.d (dl r rn)], iE 1000, iE 768000] (kF []) 0 (bV true) (kF []) 0) ∧ (Fun 66 [.agg [.d (dl s sn)], iE 1, iE 65536] (kF []) 0 (bV false) (kF []) 0)) [(2, bV false)] [] 1 ⟨(by have h0 := (eP r rn 1000 768000 zo zo); rw [hx9] at h0; exact h0), (by have h0 := (eP s sn 1 65536 zo zo); rw [hx10] at h0; exact h0)⟩ ?_
        refine AW.ret ?_
        exact kC (.inr rfl) [] (P := ((dK k r rn m s sn) = false)) zk (by first | exact mJ zo (by assumption) (fT zo zo (fun j hj => ha j zo)) (by assumption) | exact nH zo | exact dJ (gA zo) | exact dJ (gB (k := i) zo cZ) | exact nG (by assumption) | exact nF (by assumption))
      ·refine kI [.no, .no, .call [] (bV false) [] 0 [] none, .no, .no, .no] (Fun 66 [.agg [.d (dl r rn)], iE 1000, iE 768000] (kF []) 0 (bV false) (kF []) 0) [(2, bV false)] [] 1 (by have h0 := (eP r rn 1000 768000 zo zo); rw [hx9] at h0; exact h0) ?_
       refine AW.ret ?_
       exact kC (.inr rfl) [] (P := ((dK k r rn m s sn) = false)) zk (by first | exact mJ zo (by assumption) (fT zo zo (fun j hj => ha j zo)) (by assumption) | exact nH zo | exact dJ (gA zo) | exact dJ (gB (k := i) zo cZ) | exact nG (by assumption) | exact nF (by assumption))
@[reducible] def lV (x : List Bx) (i : Nat) : List D := [iD (vK x i), dl (vH x i) (uM x i), D.sl (kY (kW x i)) (List.length (kW x i)), dl (aG x i) (yW x i)]
@[reducible] def q1A (x : List Bx) (i : Nat) : E1 := .agg [iC (vK x i), .d (dl (vH x i) (uM x i)), .d (D.sl (kY (kW x i)) (List.length (kW x i))), .d (dl (aG x i) (yW x i))]
@[reducible] def uX (x : List Bx) (n : Nat) : E1 := (.c (.d (D.sl (kR x) n)))
theorem g6 (bs : List Bx) (n : Nat) (hn : List.length bs = n) (h1 : n ≤ 1000000) (hW : BsW bs) : Fun 34 [.c (.d (D.sl (kR bs) n))] (kF []) 0 (kS (D.lit (.bool (iI bs)))) (kF []) 0 := by
 refine Fun.mk (n := 18) Try.func34 rfl rfl (Nat.le_of_ble_eq_true rfl) ?_
 intro cx hcx
 refine kI [.no] True [(0, .e (uX bs n))] [] 0 trivial ?_
 refine AW.seq ?_
 refine k8 [.no, .no, .no] True [(0, .e (uX bs n)), (5, .e (uX bs n)), (6, uV n), (7, iV 0)] trivial ?_
 refine AW.block ?_
 refine kX 0 hcx (fun (x : {x : Nat // match x with | i => (i ≤ n) ∧ (∀ j, j < i → vbE bs j = true)}) => match x with | ⟨i, _⟩ => (⟨[(0, .e (uX bs n)), (5, .e (uX bs n)), (6, uV n), (7, uV i)], [], 0⟩ : ES)) (fun x => match x with | ⟨i, _⟩ => n - i) ⟨(0 : Nat), ⟨hX, (fun j hj => absurd hj (Nat.not_lt_zero j))⟩⟩ [] (P := (kZ (kR bs)) ∧ (kP n) ∧ (kZ (kR bs)) ∧ (kP n) ∧ (kN (n : Int)) ∧ (kN 0)) zk ⟨rfl, rfl, rfl, rfl, rfl, rfl⟩ ?_
 rintro ⟨i, hinv0⟩
 obtain ⟨hi, ha⟩ : (i ≤ n) ∧ (∀ j, j < i → vbE bs j = true) := hinv0
 refine qU (l := [(0, .e (uX bs n)), (5, .e (uX bs n)), (6, uV n), (7, uV i)]) (g := []) (nx := 0) rfl rfl rfl ?_
 by_cases hx1 : (((i : Nat) : Int) < ((n : Nat) : Int))
 ·refine kI [.b true] (((i : Int) < (n : Int))) [(0, .e (uX bs n)), (5, .e (uX bs n)), (6, uV n), (7, uV i), (8, bV true)] [] 0 zo ?_
  refine AW.seq ?_
  refine vD ?_
  refine AW.seq ?_
  refine AW.block ?_
  obtain ⟨hx2, hx3, hx4, hx5, hx6⟩ := BsW.at (kQ : BsW bs) (i)
  refine kI [.n i, .ds (lV bs i), .no, .no] ((kN (i : Int)) ∧ (i < n) ∧ (List.take 4 (List.drop (i * 4) (kR bs)) = (lV bs i)) ∧ (((lV bs i) : List D).length = 4)) [(0, .e (uX bs n)), (4, rV 0 0), (5, .e (uX bs n)), (6, uV n), (7, uV i)] [(0, some (47, .ds (lV bs i)))] 1 ⟨rfl, zo, (mL wX), rfl⟩ ?_
  rcases Bool.eq_false_or_eq_true (dK (vK bs i) (vH bs i) (uM bs i) (kW bs i) (aG bs i) (yW bs i)) with hx7 | hx7
  ·refine kI [.no, .call [] (bV true) [] 0 [] none, .no] (Fun 51 [(q1A bs i)] (kF []) 0 (bV true) (kF []) 0) [(0, .e (uX bs n)), (5, .e (uX bs n)), (6, uV n), (7, uV i), (13, bV false)] [] 1 (by have h0 := (u0r (vK bs i) (vH bs i) (uM bs i) (kW bs i) (List.length (kW bs i)) (aG bs i) (yW bs i) yN yN rfl yN yN yN (i4 (kQ : BsW bs) _)); rw [hx7] at h0; exact h0) ?_
   refine yC ?_
   refine yD [.w, .no] (qJ ((i : Int) + 1)) [(0, .e (uX bs n)), (5, .e (uX bs n)), (6, uV n), (7, iV (↑i + 1))] ⟨by omega, by omega⟩ ?_
   exact qE ⟨((i + 1) : Nat), ⟨hX, (fun j hj => (Nat.lt_succ_iff_lt_or_eq.1 hj).elim (ha j) (fun e9 => by subst e9; assumption))⟩⟩ [] (P := (kZ (kR bs)) ∧ (kP n) ∧ (kZ (kR bs)) ∧ (kP n) ∧ (kN (n : Int)) ∧ (((((i + 1) : Nat) : Int) : Int) = ((i : Int) + 1))) zk ⟨rfl, rfl, rfl, rfl, rfl, (by first | rfl | omega | assumption | (simp; done) | (simp; omega))⟩ (show n - (i + 1) < n - i from (by first | omega | (show _ < _; simp; omega)))
  ·refine kI [.no, .call [] (bV false) [] 0 [] none, .no] (Fun 51 [(q1A bs i)] (kF []) 0 (bV false) (kF []) 0) [(0, .e (uX bs n)), (5, .e (uX bs n)), (6, uV n), (7, uV i), (13, bV true)] [] 1 (by have h0 := (u0r (vK bs i) (vH bs i) (uM bs i) (kW bs i) (List.length (kW bs i)) (aG bs i) (yW bs i) yN yN rfl yN yN yN (i4 (kQ : BsW bs) _)); rw [hx7] at h0; exact h0) ?_
   refine zt ?_
   refine k8 [.no] True [(2, bV false)] trivial ?_
   refine AW.ret ?_
   exact kC (.inr rfl) [] (P := ((iI bs) = false)) zk (by first | exact k2m zo (fun j hj => ha j zo) | exact k14 zo | exact k76 (k := i) zo (by assumption))
 ·refine kI [.b false] (¬ ((i : Int) < (n : Int))) [(0, .e (uX bs n)), (5, .e (uX bs n)), (6, uV n), (7, uV i), (8, bV false)] [] 0 zo ?_
  refine AW.seq ?_
  refine zf ?_
  refine AW.exit ?_
  by_cases hx8 : (((n : Nat) : Int) ≤ 64)
  ·refine kI [.no, .no, .b true, .no] (((n : Int) ≤ 64)) [(2, bV true)] [] 0 zo ?_
   refine AW.ret ?_
   exact kC (.inr rfl) [] (P := ((iI bs) = true)) zk (by first | exact k2m zo (fun j hj => ha j zo) | exact k14 zo | exact k76 (k := i) zo (by assumption))
  ·refine kI [.no, .no, .b false, .no] (¬ ((n : Int) ≤ 64)) [(2, bV false)] [] 0 zo ?_
   refine AW.ret ?_
   exact kC (.inr rfl) [] (P := ((iI bs) = false)) zk (by first | exact k2m zo (fun j hj => ha j zo) | exact k14 zo | exact k76 (k := i) zo (by assumption))
end Go.Proofs.Ytdbjebdomdnbkaa
