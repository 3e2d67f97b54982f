/- Valid lists of boxes. No statement is proved here. -/
import Derived.Test.YtcfmjpnffembpaaGreatZL10A
import Derived.Test.YtcfmjpnffembpaaGreatZL09C
namespace Go.Proofs.YtcfmjpnffembpaaGreat
open Go.ChangeShapes Go.WideShapes Go.ChangeAt Go.RowKit
open Bool renaming and_false → kd7, eq_false_or_eq_true → kb2, false_and → kj2
open List renaming drop → ka4, drop_drop → ke9, getD → ka1, getD_eq_getElem?_getD → ka7, getElem?_eq_getElem → kb1, length → ka0, length_append → ka6, length_cons → ka8, length_drop → kb0, length_map → kc0, length_nil → kb3, length_replicate → kb4, length_reverse → kc1, length_set → kb8, length_take → ka9, mem_of_getElem? → kd5, mem_of_mem_take → kg6, take → ka3
open Nat renaming le_of_ble_eq_true → ka5, not_lt_zero → kd3, zero_le → kd8
set_option linter.unusedVariables false
set_option linter.unusedSimpArgs false
/-! chapter 10: maps and boxes as data -/
set_option maxHeartbeats 4000000
set_option maxRecDepth 100000
def kJ (xs : List (List Int)) : List D := xs.map fun l => D.sl (dI .i64 l) l.length
theorem qC (xs : List (List Int)) : ka0 (kJ xs) = ka0 xs := by unfold kJ; simp
theorem bX (xs : List (List Int)) (l : List Int) (n : Nat) (h : l.length = n) : kJ xs ++ [D.sl (dI .i64 l) n] = kJ (xs ++ [l]) := by subst h; unfold kJ; simp
theorem aB (xs : List (List Int)) (i : Nat) (h : i < xs.length) : (ka4 i (kJ xs))[0]? = some (D.sl (dI .i64 (ka1 xs i [])) (ka1 xs i []).length) := by
 unfold kJ
 rw [List.getElem?_drop, Nat.add_zero, List.getElem?_map, kb1 h, ka7, kb1 h]; rfl
theorem iU (xs : List (List Int)) (n : Nat) : ka3 (n * 1) (ka4 (0 * 1) (kJ xs)) = kJ (ka3 n xs) := by unfold kJ; simp [List.map_take]
def MsW (xs : List (List Int)) : Prop := ∀ l ∈ xs, ka0 l ≤ 1000000
theorem MsW.at {xs : List (List Int)} (h : MsW xs) (i : Nat) : ka0 (ka1 xs i []) ≤ 1000000 := by
 rw [ka7]
 cases e : xs[i]? with
 | none => exact kd8 _
 | some l => exact h l (kd5 e)
theorem MsW.nil : MsW [] := fun l h => by cases h
theorem MsW.snoc {xs : List (List Int)} {l : List Int} (h : MsW xs) (hl : ka0 l ≤ 1000000) : MsW (xs ++ [l]) := fun m hm => (List.mem_append.1 hm).elim (h m) fun hm => by
 rw [List.mem_singleton.1 hm]; exact hl
theorem MsW.take {xs : List (List Int)} (h : MsW xs) (n : Nat) : MsW (ka3 n xs) := fun m hm => h m (kg6 hm)
def iY (xs : List (List Int)) (m : List Int) : Bool := decide (m ∈ xs)
theorem u2g {xs : List (List Int)} {m : List Int} {k : Nat} (hk : k < xs.length) (h : vQ (ka1 xs k []) m = true) : iY xs m = true := by
 have e : ka1 xs k [] = xs[k] := by rw [ka7, kb1 hk]; rfl
 have h1 := k43 h
 rw [e] at h1
 exact decide_eq_true (h1 ▸ List.getElem_mem hk)
theorem u2h {xs : List (List Int)} {m : List Int} (h : ∀ j, j < xs.length → vQ (ka1 xs j []) m = false) : iY xs m = false := by
 refine decide_eq_false fun hm => ?_
 obtain ⟨j, hj, e⟩ := List.mem_iff_getElem.1 hm
 have h1 := k41 (h j hj)
 have e1 : ka1 xs j [] = xs[j] := by rw [ka7, kb1 hj]; rfl
 exact h1 (by rw [e1, e])
def vmE (xs : List (List Int)) (i : Nat) : Bool := mS (ka1 xs i []) (ka1 xs i []).length && !(iY (ka3 i xs) (ka1 xs i []))
def xN (xs : List (List Int)) : Bool := decide (1 ≤ xs.length ∧ xs.length ≤ 16 ∧ ∀ i, i < xs.length → vmE xs i = true)
theorem iI {xs : List (List Int)} (h1 : 1 ≤ xs.length) (h2 : xs.length ≤ 16) (h : ∀ i, i < xs.length → vmE xs i = true) : xN xs = true := decide_eq_true ⟨h1, h2, h⟩
theorem iK {xs : List (List Int)} {k : Nat} (hk : k < xs.length) (h : vmE xs k = false) : xN xs = false := decide_eq_false fun h1 => by
 have := h1.2.2 k hk; rw [h] at this; cases this
theorem iJ {xs : List (List Int)} (h : xs.length < 1 ∨ 16 < xs.length) : xN xs = false := decide_eq_false fun h1 => by omega
theorem u09 {xs : List (List Int)} {i : Nat} (h1 : mS (ka1 xs i []) (ka1 xs i []).length = true) (h2 : iY (ka3 i xs) (ka1 xs i []) = false) : vmE xs i = true := by unfold vmE; rw [h1, h2]; rfl
theorem u0b {xs : List (List Int)} {i : Nat} (h1 : mS (ka1 xs i []) (ka1 xs i []).length = false) : vmE xs i = false := by unfold vmE; rw [h1]; rfl
theorem u0a {xs : List (List Int)} {i : Nat} (h2 : iY (ka3 i xs) (ka1 xs i []) = true) : vmE xs i = false := by unfold vmE; rw [h2]; cases mS (ka1 xs i []) (ka1 xs i []).length <;> rfl
def f9 (l : List Int) (n : Nat) (lo hi : Int) : Bool := gJ l n && decide (1 ≤ n ∧ lo ≤ ka1 l 0 0 ∧ ka1 l ((n - 1) * 2 + 1) 0 ≤ hi)
theorem u6f {l : List Int} {n : Nat} {lo hi : Int} (h : gJ l n = true) (h2 : 1 ≤ n ∧ lo ≤ ka1 l 0 0 ∧ ka1 l ((n - 1) * 2 + 1) 0 ≤ hi) : f9 l n lo hi = true := by unfold f9; rw [h, decide_eq_true h2]; rfl
theorem u6g {l : List Int} {n : Nat} {lo hi : Int} (h : gJ l n = false) : f9 l n lo hi = false := by unfold f9; rw [h]; rfl
theorem u6h {l : List Int} {n : Nat} {lo hi : Int} (h2 : ¬ (1 ≤ n ∧ lo ≤ ka1 l 0 0 ∧ ka1 l ((n - 1) * 2 + 1) 0 ≤ hi)) : f9 l n lo hi = false := by unfold f9; rw [decide_eq_false h2]; cases gJ l n <;> rfl
structure Bx where
 k : Int
 r : List Int
 rn : Nat
 m : List (List Int)
 s : List Int
 sn : Nat
def bx0 : Bx := ⟨0, [], 0, [], [], 0⟩
def bxR (b : Bx) : List D := [D.lit (.int .i64 b.k), D.sl (dI .i64 b.r) b.rn, D.sl (kJ b.m) b.m.length, D.sl (dI .i64 b.s) b.sn]
def kF : List Bx → List D
 | [] => []
 | b :: r => bxR b ++ kF r
theorem qB : ∀ xs : List Bx, ka0 (kF xs) = ka0 xs * 4
 | [] => rfl
 | b :: r => by show ka0 (bxR b ++ kF r) = (ka0 r + 1) * 4; rw [ka6, qB r]; show 4 + _ = _; omega
theorem jA : ∀ a b : List Bx, kF (a ++ b) = kF a ++ kF b
 | [], _ => rfl
 | l :: r, b => by show bxR l ++ kF (r ++ b) = bxR l ++ kF r ++ kF b; rw [jA r b, List.append_assoc]
theorem i9 : ∀ (i : Nat) (xs : List Bx), ka4 (i * 4) (kF xs) = kF (ka4 i xs)
 | 0, _ => rfl
 | i + 1, [] => by simp [kF]
 | i + 1, l :: r => by
  show ka4 ((i + 1) * 4) (bxR l ++ kF r) = kF (ka4 i r)
  rw [show (i + 1) * 4 = 4 + i * 4 by omega, ← ke9, ← i9 i r]; rfl
theorem nZ : ∀ (i : Nat) (xs : List Bx), ka3 (i * 4) (kF xs) = kF (ka3 i xs)
 | 0, _ => rfl
 | i + 1, [] => by simp [kF]
 | i + 1, l :: r => by
  show ka3 ((i + 1) * 4) (bxR l ++ kF r) = bxR l ++ kF (ka3 i r)
  rw [← nZ i r, show (i + 1) * 4 = ka0 (bxR l) + i * 4 by show _ = 4 + _; omega, List.take_length_add_append]
def gO (xs : List Bx) (i : Nat) : Bx := ka1 xs i bx0
def qJ (xs : List Bx) (i : Nat) : Int := (gO xs i).k
def qR (xs : List Bx) (i : Nat) : List Int := (gO xs i).r
def qM (xs : List Bx) (i : Nat) : Nat := (gO xs i).rn
def kY (xs : List Bx) (i : Nat) : List (List Int) := (gO xs i).m
def qS (xs : List Bx) (i : Nat) : List Int := (gO xs i).s
def qN (xs : List Bx) (i : Nat) : Nat := (gO xs i).sn
theorem k9t {xs : List Bx} {i : Nat} (h : i < ka0 xs) : kF (ka4 i xs) = bxR (gO xs i) ++ kF (ka4 (i + 1) xs) := by
 have e : gO xs i = xs[i] := by unfold gO; rw [ka7, kb1 h]; rfl
 rw [List.drop_eq_getElem_cons h, e]; rfl
theorem cN {xs : List Bx} {i : Nat} (h : i < ka0 xs) : ka3 4 (ka4 (i * 4) (kF xs)) = [D.lit (.int .i64 (qJ xs i)), D.sl (dI .i64 (qR xs i)) (qM xs i), D.sl (kJ (kY xs i)) (ka0 (kY xs i)), D.sl (dI .i64 (qS xs i)) (qN xs i)] := by
 rw [i9, k9t h]; rfl
def BxW (b : Bx) : Prop := ka0 b.r = b.rn * 2 ∧ ka0 b.s = b.sn * 2 ∧ b.rn ≤ 1000000 ∧ b.sn ≤ 1000000 ∧ ka0 b.m ≤ 1000000 ∧ MsW b.m
def BsW (xs : List Bx) : Prop := ∀ b ∈ xs, BxW b
theorem u5h : BxW bx0 := ⟨rfl, rfl, kd8 _, kd8 _, kd8 _, MsW.nil⟩
theorem BsW.get {xs : List Bx} (h : BsW xs) (i : Nat) : BxW (gO xs i) := by
 unfold gO
 rw [ka7]
 cases e : xs[i]? with
 | none => exact u5h
 | some l => exact h l (kd5 e)
theorem BsW.at {xs : List Bx} (h : BsW xs) (i : Nat) : ka0 (qR xs i) = qM xs i * 2 ∧ ka0 (qS xs i) = qN xs i * 2 ∧ qM xs i ≤ 1000000 ∧ qN xs i ≤ 1000000 ∧ ka0 (kY xs i) ≤ 1000000 := by
 have h1 := h.get i
 exact ⟨h1.1, h1.2.1, h1.2.2.1, h1.2.2.2.1, h1.2.2.2.2.1⟩
theorem vM {xs : List Bx} (h : BsW xs) (i : Nat) : MsW (kY xs i) := (h.get i).2.2.2.2.2
theorem BsW.take {xs : List Bx} (h : BsW xs) (n : Nat) : BsW (ka3 n xs) := fun m hm => h m (kg6 hm)
theorem BsW.drop {xs : List Bx} (h : BsW xs) (n : Nat) : BsW (ka4 n xs) := fun m hm => h m (List.mem_of_mem_drop hm)
theorem BsW.app {xs ys : List Bx} (h : BsW xs) (h2 : BsW ys) : BsW (xs ++ ys) := fun m hm => (List.mem_append.1 hm).elim (h m) (h2 m)
theorem BsW.nil : BsW [] := fun l h => by cases h
theorem BsW.one {b : Bx} (h : BxW b) : BsW [b] := fun m hm => by rw [List.mem_singleton.1 hm]; exact h
def fN (k : Int) : Int := qG .andNot .i64 k 254
def uG (k : Int) : Int := qG .and .i64 k 1
def xR (k : Int) (q : Nat) : Bool := decide (1 ≤ q ∧ q ≤ 7 ∧ uG (k / ((2 ^ q : Nat) : Int)) = 1)
def eK (k : Int) (r : List Int) (rn : Nat) (m : List (List Int)) (s : List Int) (sn : Nat) : Bool := decide (¬ k = 0 ∧ fN k = 0) && (f9 r rn 1000 768000 && (xN m && f9 s sn 1 65536))
def vbE (xs : List Bx) (i : Nat) : Bool := eK (qJ xs i) (qR xs i) (qM xs i) (kY xs i) (qS xs i) (qN xs i)
def hY (xs : List Bx) : Bool := decide (xs.length ≤ 64 ∧ ∀ i, i < xs.length → vbE xs i = true)
theorem k3s {xs : List Bx} (h2 : xs.length ≤ 64) (h : ∀ i, i < xs.length → vbE xs i = true) : hY xs = true := decide_eq_true ⟨h2, h⟩
theorem k7z {xs : List Bx} {k : Nat} (hk : k < xs.length) (h : vbE xs k = false) : hY xs = false := decide_eq_false fun h1 => by
 have := h1.2 k hk; rw [h] at this; cases this
theorem k2l {xs : List Bx} (h : 64 < xs.length) : hY xs = false := decide_eq_false fun h1 => by omega
theorem oQ {k : Int} {r : List Int} {rn : Nat} {m : List (List Int)} {s : List Int} {sn : Nat} (h1 : ¬ k = 0 ∧ fN k = 0) (h2 : f9 r rn 1000 768000 = true) (h3 : xN m = true) (h4 : f9 s sn 1 65536 = true) : eK k r rn m s sn = true := by
 unfold eK; rw [h2, h3, h4, decide_eq_true h1]; rfl
theorem oU {k : Int} {r : List Int} {rn : Nat} {m : List (List Int)} {s : List Int} {sn : Nat} (h1 : ¬ (¬ k = 0 ∧ fN k = 0)) : eK k r rn m s sn = false := by
 unfold eK; rw [decide_eq_false h1]; rfl
theorem oT {k : Int} {r : List Int} {rn : Nat} {m : List (List Int)} {s : List Int} {sn : Nat} (h2 : f9 r rn 1000 768000 = false) : eK k r rn m s sn = false := by
 unfold eK; rw [h2, kj2, kd7]
theorem eF {k : Int} {r : List Int} {rn : Nat} {m : List (List Int)} {s : List Int} {sn : Nat} (h3 : xN m = false) : eK k r rn m s sn = false := by
 unfold eK; rw [h3, kj2, kd7, kd7]
theorem oR {k : Int} {r : List Int} {rn : Nat} {m : List (List Int)} {s : List Int} {sn : Nat} (h4 : f9 s sn 1 65536 = false) : eK k r rn m s sn = false := by
 unfold eK; rw [h4, kd7, kd7, kd7]
def kE (xs : List Bx) : List Bx := if hY xs = true then xs else []
theorem w7 {xs : List Bx} (h : hY xs = true) : kE xs = xs := if_pos h
theorem k22 {xs : List Bx} (h : hY xs = false) : kE xs = [] := if_neg (by rw [h]; decide)
theorem aK {xs : List Bx} (h : BsW xs) : BsW (kE xs) := by unfold kE; split; exact h; exact BsW.nil
theorem eG (xs : List Bx) : ka0 (kE xs) ≤ ka0 xs := by unfold kE; split; exact Nat.le_refl _; exact kd8 _
theorem jZ {p : Prop} (h : p := by first | omega | assumption | simp) : p := h
theorem zB {p : Prop} (h : p := by first | omega | (simp only [qC, qB, ka6, ka8, kb3, ka9, kb0] <;> omega)) : p := h
theorem yY {p : Prop} (h : p := by first | omega | with_reducible assumption | (simp only [qC, qB, ka6, ka8, kb3, ka9, kb0, kb4, kb8] <;> omega) | rfl | assumption) : p := h
theorem s0 (ms : List (List Int)) (c : Nat) (m : List Int) (n : Nat) (hc : ka0 ms = c) (hn : ka0 m = n) (h1 : c ≤ 1000000) (h2 : n ≤ 1000000) (hW : MsW ms) : Fun 83 [.c (.d (D.sl (kJ ms) c)), .c (.d (D.sl (dI .i64 m) n))] (kK []) 0 (qY (D.lit (.bool (iY ms m)))) (kK []) 0 := by
 refine Fun.mk (n := 17) Tryz.func83 rfl rfl (ka5 rfl) ?_
 intro cx hcx
 refine kL [.no] True [(0, kI (kJ ms) c), (1, sV .i64 m n)] [] 0 trivial ?_
 refine AW.seq ?_
 refine kP [.no, .no, .no] True [(1, sV .i64 m n), (7, kI (kJ ms) c), (8, uV c), (9, iV 0)] trivial ?_
 refine AW.block ?_
 refine kZ 0 hcx (fun (x : {x : Nat // match x with | k => (k ≤ c) ∧ (∀ j, j < k → vQ (ka1 ms j []) m = false)}) => match x with | ⟨k, _⟩ => (⟨[(1, sV .i64 m n), (7, kI (kJ ms) c), (8, uV c), (9, uV k)], [], 0⟩ : ES)) (fun x => match x with | ⟨k, _⟩ => c - k) ⟨(0 : Nat), ⟨jZ, (fun j hj => absurd hj (kd3 j))⟩⟩ [] (P := (kM (dI .i64 m)) ∧ (kH n) ∧ (kM (kJ ms)) ∧ (kH c) ∧ (kO (c : Int)) ∧ (kO 0)) zk ⟨rfl, rfl, rfl, rfl, rfl, rfl⟩ ?_
 rintro ⟨k, hinv0⟩
 obtain ⟨hk, ha⟩ : (k ≤ c) ∧ (∀ j, j < k → vQ (ka1 ms j []) m = false) := hinv0
 refine qT (l := [(1, sV .i64 m n), (7, kI (kJ ms) c), (8, uV c), (9, uV k)]) (g := []) (nx := 0) rfl rfl rfl ?_
 by_cases hx1 : (((k : Nat) : Int) < ((c : Nat) : Int))
 ·refine kL [.b true] (((k : Int) < (c : Int))) [(1, sV .i64 m n), (7, kI (kJ ms) c), (8, uV c), (9, uV k), (10, bV true)] [] 0 zo ?_
  refine AW.seq ?_
  refine vP ?_
  refine AW.seq ?_
  refine AW.block ?_
  have hx2 : ((ka0 (ka1 ms k ([] : List Int))) ≤ 1000000) := MsW.at (qF : MsW ms) _
  refine kP [.n k, .d (dl (ka1 ms k ([] : List Int)) (ka0 (ka1 ms k ([] : List Int)))), .no] ((kO (k : Int)) ∧ (k < c) ∧ ((ka4 k (kJ ms))[0]? = some (dl (ka1 ms k ([] : List Int)) (ka0 (ka1 ms k ([] : List Int)))))) [(1, sV .i64 m n), (6, sV .i64 (ka1 ms k ([] : List Int)) (ka0 (ka1 ms k ([] : List Int)))), (7, kI (kJ ms) c), (8, uV c), (9, uV k)] ⟨rfl, zo, (aB _ _ zB)⟩ ?_
  rcases kb2 (vQ (ka1 ms k ([] : List Int)) m) with hx3 | hx3
  ·refine kP [.no, .no, .call [] (bV true) [] 0 [] none] (Fun 94 [.c (.d (dl (ka1 ms k ([] : List Int)) (ka0 (ka1 ms k ([] : List Int))))), .c (.d (dl m n))] (kK []) 0 (bV true) (kK []) 0) [(1, sV .i64 m n), (7, kI (kJ ms) c), (8, uV c), (9, uV k), (15, bV true)] (by have h0 := (aF (ka1 ms k ([] : List Int)) m (ka0 (ka1 ms k ([] : List Int))) n rfl zo yY zo); rw [hx3] at h0; exact h0) ?_
   refine zt ?_
   refine kP [.no] True [(4, bV true)] trivial ?_
   refine AW.ret ?_
   exact kD (.inr rfl) [] (P := ((iY ms m) = true)) zk (by first | exact u2g (k := k) zo (by assumption) | exact u2h (fun j hj => ha j zo))
  ·refine kP [.no, .no, .call [] (bV false) [] 0 [] none] (Fun 94 [.c (.d (dl (ka1 ms k ([] : List Int)) (ka0 (ka1 ms k ([] : List Int))))), .c (.d (dl m n))] (kK []) 0 (bV false) (kK []) 0) [(1, sV .i64 m n), (7, kI (kJ ms) c), (8, uV c), (9, uV k), (15, bV false)] (by have h0 := (aF (ka1 ms k ([] : List Int)) m (ka0 (ka1 ms k ([] : List Int))) n rfl zo yY zo); rw [hx3] at h0; exact h0) ?_
   refine uB ?_
   refine uS [.w, .no] ((-9223372036854775808) ≤ ((k : Int) + 1) ∧ ((k : Int) + 1) ≤ 9223372036854775807) [(1, sV .i64 m n), (7, kI (kJ ms) c), (8, uV c), (9, iV (↑k + 1))] ⟨by omega, by omega⟩ ?_
   exact kW ⟨((k + 1) : Nat), ⟨jZ, (fun j hj => (Nat.lt_succ_iff_lt_or_eq.1 hj).elim (ha j) (fun e9 => by subst e9; assumption))⟩⟩ [] (P := (kM (dI .i64 m)) ∧ (kH n) ∧ (kM (kJ ms)) ∧ (kH c) ∧ (kO (c : Int)) ∧ (((((k + 1) : Nat) : Int) : Int) = ((k : Int) + 1))) zk ⟨rfl, rfl, rfl, rfl, rfl, (by first | rfl | omega | assumption | (simp; done) | (simp; omega))⟩ (show c - (k + 1) < c - k from (by first | omega | (show _ < _; simp; omega)))
 ·refine kL [.b false] (¬ ((k : Int) < (c : Int))) [(1, sV .i64 m n), (7, kI (kJ ms) c), (8, uV c), (9, uV k), (10, bV false)] [] 0 zo ?_
  refine AW.seq ?_
  refine zf ?_
  refine AW.exit ?_
  refine kL [.no] True [(4, bV false)] [] 0 trivial ?_
  refine AW.ret ?_
  exact kD (.inr rfl) [] (P := ((iY ms m) = false)) zk (by first | exact u2g (k := k) zo (by assumption) | exact u2h (fun j hj => ha j zo))
theorem c7 {p : Prop} (h : p := by first | (rw [ke9]; exact q5 _ _ _ (by first | omega | (simp only [qC, qB, qX, ka6, ka8, kb3, ka9, kb0, kb4, kb8, kc0, kc1, Nat.mul_one] <;> omega) | rfl)) | (rw [ke9, Nat.add_comm]; exact q5 _ _ _ (by first | omega | (simp only [qC, qB, qX, ka6, ka8, kb3, ka9, kb0, kb4, kb8, kc0, kc1, Nat.mul_one] <;> omega) | rfl))) : p := h
theorem c6 {p : Prop} (h : p := by first | exact u6f (by assumption) (by omega) | exact u6g (by assumption) | exact u6h (by omega)) : p := h
theorem fO (l : List Int) (n : Nat) (lo hi : Int) (hl : ka0 l = n * 2) (hb : n ≤ 1000000) : Fun 92 [.agg [.d (D.sl (dI .i64 l) n)], iE lo, iE hi] (kK []) 0 (qY (D.lit (.bool (f9 l n lo hi)))) (kK []) 0 := by
 refine Fun.mk (n := 37) Tryz.func92 rfl rfl (ka5 rfl) ?_
 intro cx hcx
 refine kL [.no, .no] True [(1, iV lo), (2, iV hi), (3, rV 0 0)] [(0, some (56, .ds [dl l n]))] 1 trivial ?_
 refine kP (qA 4 []) True [(1, iV lo), (2, iV hi), (3, rV 0 0), (7, uV n)] trivial ?_
 rcases kb2 (gJ l n) with hx1 | hx1
 ·by_cases hx2 : ((0 : Int) < ((n : Nat) : Int))
  ·by_cases hx3 : (lo ≤ (ka1 l 0 0))
   ·by_cases hx4 : ((ka1 l (((n - 1) * 2) + 1) 0) ≤ hi)
    ·refine kL (.no :: .call [] (bV true) [] 0 [] none :: .no :: .no :: .b true :: qA 4 (.n 0 :: .no :: .d (D.lit (.int .i64 (ka1 l 0 0))) :: .no :: .b true :: qA 5 [.w, .n (n - 1), .no, .d (D.lit (.int .i64 (ka1 l (((n - 1) * 2) + 1) 0))), .no, .b true, .no, .no])) ((Fun 134 [.agg [.d (dl l n)]] (kK []) 0 (bV true) (kK []) 0) ∧ (((0 : Int) < (n : Int))) ∧ (kO 0) ∧ ((0 : Nat) < n) ∧ ((ka4 0 (ka4 0 (dI .i64 l)))[0]? = some (D.lit (.int .i64 (ka1 l 0 0)))) ∧ ((lo ≤ (ka1 l 0 0))) ∧ ((-9223372036854775808) ≤ ((n : Int) - 1) ∧ ((n : Int) - 1) ≤ 9223372036854775807) ∧ ((((n : Int) - 1) : Int) = (((n - 1) : Nat) : Int)) ∧ ((n - 1) < n) ∧ ((ka4 1 (ka4 ((n - 1) * 2) (dI .i64 l)))[0]? = some (D.lit (.int .i64 (ka1 l (((n - 1) * 2) + 1) 0)))) ∧ (((ka1 l (((n - 1) * 2) + 1) 0) ≤ hi))) [(6, bV true)] [] 1 ⟨(by have h0 := (cP l n zo zo); rw [hx1] at h0; exact h0), zo, rfl, zo, c7, zo, ⟨by omega, by omega⟩, (by first | rfl | omega), zo, c7, zo⟩ ?_
     refine AW.ret ?_
     exact kD (.inr rfl) [] (P := ((f9 l n lo hi) = true)) zk c6
    ·refine kL (.no :: .call [] (bV true) [] 0 [] none :: .no :: .no :: .b true :: qA 4 (.n 0 :: .no :: .d (D.lit (.int .i64 (ka1 l 0 0))) :: .no :: .b true :: qA 5 [.w, .n (n - 1), .no, .d (D.lit (.int .i64 (ka1 l (((n - 1) * 2) + 1) 0))), .no, .b false, .no, .no])) ((Fun 134 [.agg [.d (dl l n)]] (kK []) 0 (bV true) (kK []) 0) ∧ (((0 : Int) < (n : Int))) ∧ (kO 0) ∧ ((0 : Nat) < n) ∧ ((ka4 0 (ka4 0 (dI .i64 l)))[0]? = some (D.lit (.int .i64 (ka1 l 0 0)))) ∧ ((lo ≤ (ka1 l 0 0))) ∧ ((-9223372036854775808) ≤ ((n : Int) - 1) ∧ ((n : Int) - 1) ≤ 9223372036854775807) ∧ ((((n : Int) - 1) : Int) = (((n - 1) : Nat) : Int)) ∧ ((n - 1) < n) ∧ ((ka4 1 (ka4 ((n - 1) * 2) (dI .i64 l)))[0]? = some (D.lit (.int .i64 (ka1 l (((n - 1) * 2) + 1) 0)))) ∧ (¬ ((ka1 l (((n - 1) * 2) + 1) 0) ≤ hi))) [(6, bV false)] [] 1 ⟨(by have h0 := (cP l n zo zo); rw [hx1] at h0; exact h0), zo, rfl, zo, c7, zo, ⟨by omega, by omega⟩, (by first | rfl | omega), zo, c7, zo⟩ ?_
     refine AW.ret ?_
     exact kD (.inr rfl) [] (P := ((f9 l n lo hi) = false)) zk c6
   ·refine kL (.no :: .call [] (bV true) [] 0 [] none :: .no :: .no :: .b true :: qA 4 (.n 0 :: .no :: .d (D.lit (.int .i64 (ka1 l 0 0))) :: .no :: .b false :: qA 4 [])) ((Fun 134 [.agg [.d (dl l n)]] (kK []) 0 (bV true) (kK []) 0) ∧ (((0 : Int) < (n : Int))) ∧ (kO 0) ∧ ((0 : Nat) < n) ∧ ((ka4 0 (ka4 0 (dI .i64 l)))[0]? = some (D.lit (.int .i64 (ka1 l 0 0)))) ∧ (¬ (lo ≤ (ka1 l 0 0)))) [(6, bV false)] [] 1 ⟨(by have h0 := (cP l n zo zo); rw [hx1] at h0; exact h0), zo, rfl, zo, c7, zo⟩ ?_
    refine AW.ret ?_
    exact kD (.inr rfl) [] (P := ((f9 l n lo hi) = false)) zk c6
  ·refine kL (.no :: .call [] (bV true) [] 0 [] none :: .no :: .no :: .b false :: qA 6 []) ((Fun 134 [.agg [.d (dl l n)]] (kK []) 0 (bV true) (kK []) 0) ∧ (¬ ((0 : Int) < (n : Int)))) [(6, bV false)] [] 1 ⟨(by have h0 := (cP l n zo zo); rw [hx1] at h0; exact h0), zo⟩ ?_
   refine AW.ret ?_
   exact kD (.inr rfl) [] (P := ((f9 l n lo hi) = false)) zk c6
 ·refine kL (.no :: .call [] (bV false) [] 0 [] none :: qA 7 []) (Fun 134 [.agg [.d (dl l n)]] (kK []) 0 (bV false) (kK []) 0) [(6, bV false)] [] 1 (by have h0 := (cP l n zo zo); rw [hx1] at h0; exact h0) ?_
  refine AW.ret ?_
  exact kD (.inr rfl) [] (P := ((f9 l n lo hi) = false)) zk c6
theorem lR (l : List Int) (n : Nat) (lo hi : Int) (hl : ka0 l = n * 2) (hb : n ≤ 1000000) : Fun 87 [.agg [.d (D.sl (dI .i64 l) n)], iE lo, iE hi] (kK []) 0 (qY (D.lit (.bool (f9 l n lo hi)))) (kK []) 0 := by
 refine Fun.mk (n := 37) Tryz.func87 rfl rfl (ka5 rfl) ?_
 intro cx hcx
 refine kL [.no, .no] True [(1, iV lo), (2, iV hi), (3, rV 0 0)] [(0, some (56, .ds [dl l n]))] 1 trivial ?_
 refine kP [.no, .no, .no, .w, .no] ((-9223372036854775808) ≤ ((n : Int) - 1) ∧ ((n : Int) - 1) ≤ 9223372036854775807) [(1, iV lo), (2, iV hi), (3, rV 0 0), (7, iV (↑n - 1))] ⟨by omega, by omega⟩ ?_
 by_cases hx1 : ((0 : Int) ≤ (((n : Nat) : Int) - 1))
 ·rcases kb2 (gJ l n) with hx2 | hx2
  ·by_cases hx3 : (lo ≤ (ka1 l 0 0))
   ·by_cases hx4 : ((ka1 l (((n - 1) * 2) + 1) 0) ≤ hi)
    ·refine kL (.no :: .b true :: .no :: .no :: .call [] (bV true) [] 0 [] none :: qA 4 (.n 0 :: .no :: .d (D.lit (.int .i64 (ka1 l 0 0))) :: .no :: .b true :: qA 5 [.n (n - 1), .no, .d (D.lit (.int .i64 (ka1 l (((n - 1) * 2) + 1) 0))), .no, .b true, .no, .no])) ((((0 : Int) ≤ ((n : Int) - 1))) ∧ (Fun 130 [.agg [.d (dl l n)]] (kK []) 0 (bV true) (kK []) 0) ∧ (kO 0) ∧ ((0 : Nat) < n) ∧ ((ka4 0 (ka4 0 (dI .i64 l)))[0]? = some (D.lit (.int .i64 (ka1 l 0 0)))) ∧ ((lo ≤ (ka1 l 0 0))) ∧ ((((n : Int) - 1) : Int) = (((n - 1) : Nat) : Int)) ∧ ((n - 1) < n) ∧ ((ka4 1 (ka4 ((n - 1) * 2) (dI .i64 l)))[0]? = some (D.lit (.int .i64 (ka1 l (((n - 1) * 2) + 1) 0)))) ∧ (((ka1 l (((n - 1) * 2) + 1) 0) ≤ hi))) [(6, bV true)] [] 1 ⟨zo, (by have h0 := (f6 l n zo zo); rw [hx2] at h0; exact h0), rfl, zo, c7, zo, (by first | rfl | omega), zo, c7, zo⟩ ?_
     refine AW.ret ?_
     exact kD (.inr rfl) [] (P := ((f9 l n lo hi) = true)) zk c6
    ·refine kL (.no :: .b true :: .no :: .no :: .call [] (bV true) [] 0 [] none :: qA 4 (.n 0 :: .no :: .d (D.lit (.int .i64 (ka1 l 0 0))) :: .no :: .b true :: qA 5 [.n (n - 1), .no, .d (D.lit (.int .i64 (ka1 l (((n - 1) * 2) + 1) 0))), .no, .b false, .no, .no])) ((((0 : Int) ≤ ((n : Int) - 1))) ∧ (Fun 130 [.agg [.d (dl l n)]] (kK []) 0 (bV true) (kK []) 0) ∧ (kO 0) ∧ ((0 : Nat) < n) ∧ ((ka4 0 (ka4 0 (dI .i64 l)))[0]? = some (D.lit (.int .i64 (ka1 l 0 0)))) ∧ ((lo ≤ (ka1 l 0 0))) ∧ ((((n : Int) - 1) : Int) = (((n - 1) : Nat) : Int)) ∧ ((n - 1) < n) ∧ ((ka4 1 (ka4 ((n - 1) * 2) (dI .i64 l)))[0]? = some (D.lit (.int .i64 (ka1 l (((n - 1) * 2) + 1) 0)))) ∧ (¬ ((ka1 l (((n - 1) * 2) + 1) 0) ≤ hi))) [(6, bV false)] [] 1 ⟨zo, (by have h0 := (f6 l n zo zo); rw [hx2] at h0; exact h0), rfl, zo, c7, zo, (by first | rfl | omega), zo, c7, zo⟩ ?_
     refine AW.ret ?_
     exact kD (.inr rfl) [] (P := ((f9 l n lo hi) = false)) zk c6
   ·refine kL (.no :: .b true :: .no :: .no :: .call [] (bV true) [] 0 [] none :: qA 4 (.n 0 :: .no :: .d (D.lit (.int .i64 (ka1 l 0 0))) :: .no :: .b false :: qA 4 [])) ((((0 : Int) ≤ ((n : Int) - 1))) ∧ (Fun 130 [.agg [.d (dl l n)]] (kK []) 0 (bV true) (kK []) 0) ∧ (kO 0) ∧ ((0 : Nat) < n) ∧ ((ka4 0 (ka4 0 (dI .i64 l)))[0]? = some (D.lit (.int .i64 (ka1 l 0 0)))) ∧ (¬ (lo ≤ (ka1 l 0 0)))) [(6, bV false)] [] 1 ⟨zo, (by have h0 := (f6 l n zo zo); rw [hx2] at h0; exact h0), rfl, zo, c7, zo⟩ ?_
    refine AW.ret ?_
    exact kD (.inr rfl) [] (P := ((f9 l n lo hi) = false)) zk c6
  ·refine kL (.no :: .b true :: .no :: .no :: .call [] (bV false) [] 0 [] none :: qA 6 []) ((((0 : Int) ≤ ((n : Int) - 1))) ∧ (Fun 130 [.agg [.d (dl l n)]] (kK []) 0 (bV false) (kK []) 0)) [(6, bV false)] [] 1 ⟨zo, (by have h0 := (f6 l n zo zo); rw [hx2] at h0; exact h0)⟩ ?_
   refine AW.ret ?_
   exact kD (.inr rfl) [] (P := ((f9 l n lo hi) = false)) zk c6
 ·refine kL (.no :: .b false :: qA 7 []) (¬ ((0 : Int) ≤ ((n : Int) - 1))) [(6, bV false)] [] 1 zo ?_
  refine AW.ret ?_
  exact kD (.inr rfl) [] (P := ((f9 l n lo hi) = false)) zk c6
theorem dW {p : Prop} (h : p := by first | exact u0b (by assumption) | exact u0a (by assumption)) : p := h
abbrev nF (k : Int) (r : List Int) (rn : Nat) (m : List (List Int)) (c : Nat) (s : List Int) (sn : Nat) : BC := .ds [iD k, D.sl (dI .i64 r) rn, D.sl (kJ m) c, D.sl (dI .i64 s) sn]
theorem u19 (k : Int) (r : List Int) (rn : Nat) (m : List (List Int)) (c : Nat) (s : List Int) (sn : Nat) (hr : ka0 r = rn * 2) (hs : ka0 s = sn * 2) (hc : ka0 m = c) (h1 : rn ≤ 1000000) (h2 : sn ≤ 1000000) (h3 : c ≤ 1000000) (hW : MsW m) : Fun 47 [.agg [iC k, .d (D.sl (dI .i64 r) rn), .d (D.sl (kJ m) c), .d (D.sl (dI .i64 s) sn)]] (kK []) 0 (qY (D.lit (.bool (eK k r rn m s sn)))) (kK []) 0 := by
 refine Fun.mk (n := 54) Tryz.func47 rfl rfl (ka5 rfl) ?_
 intro cx hcx
 refine kL [.no, .no] True [(1, rV 0 0)] [(0, some (59, (nF k r rn m c s sn)))] 1 trivial ?_
 refine AW.seq ?_
 by_cases hx1 : (k = 0)
 ·refine kP (.no :: .no :: .b true :: qA 6 []) ((k = 0)) [(1, rV 0 0), (25, bV true)] zo ?_
  refine zt ?_
  refine kL [.no] True [(2, bV false)] [] 1 trivial ?_
  refine AW.ret ?_
  exact kD (.inr rfl) [] (P := ((eK k r rn m s sn) = false)) zk (by first | exact oQ zo (by assumption) (iI zo zo (fun j hj => ha j zo)) (by assumption) | exact oU zo | exact eF (iJ zo) | exact eF (iK (k := i) zo dW) | exact oT (by assumption) | exact oR (by assumption))
 ·by_cases hx2 : ((fN k) ≠ 0)
  ·refine kP [.no, .no, .b false, .no, .no, .no, .i (fN k), .b true, .no, .no, .no, .no, .no] ((¬ (k = 0)) ∧ (qG .andNot .i64 k 254 = (fN k)) ∧ (((fN k) ≠ 0))) [(1, rV 0 0), (25, bV true)] ⟨zo, rfl, zo⟩ ?_
   refine zt ?_
   refine kL [.no] True [(2, bV false)] [] 1 trivial ?_
   refine AW.ret ?_
   exact kD (.inr rfl) [] (P := ((eK k r rn m s sn) = false)) zk (by first | exact oQ zo (by assumption) (iI zo zo (fun j hj => ha j zo)) (by assumption) | exact oU zo | exact eF (iJ zo) | exact eF (iK (k := i) zo dW) | exact oT (by assumption) | exact oR (by assumption))
  ·by_cases hx3 : (((c : Nat) : Int) < 1)
   ·refine kP (.no :: .no :: .b false :: .no :: .no :: .no :: .i (fN k) :: .b false :: qA 5 [.b true, .no, .no, .no]) ((¬ (k = 0)) ∧ (qG .andNot .i64 k 254 = (fN k)) ∧ (¬ ((fN k) ≠ 0)) ∧ (((c : Int) < 1))) [(1, rV 0 0), (25, bV true)] ⟨zo, rfl, zo, zo⟩ ?_
    refine zt ?_
    refine kL [.no] True [(2, bV false)] [] 1 trivial ?_
    refine AW.ret ?_
    exact kD (.inr rfl) [] (P := ((eK k r rn m s sn) = false)) zk (by first | exact oQ zo (by assumption) (iI zo zo (fun j hj => ha j zo)) (by assumption) | exact oU zo | exact eF (iJ zo) | exact eF (iK (k := i) zo dW) | exact oT (by assumption) | exact oR (by assumption))
   ·by_cases hx4 : ((16 : Int) < ((c : Nat) : Int))
    ·refine kP (.no :: .no :: .b false :: .no :: .no :: .no :: .i (fN k) :: .b false :: qA 5 (.b false :: qA 5 [.b true, .no])) ((¬ (k = 0)) ∧ (qG .andNot .i64 k 254 = (fN k)) ∧ (¬ ((fN k) ≠ 0)) ∧ (¬ ((c : Int) < 1)) ∧ (((16 : Int) < (c : Int)))) [(1, rV 0 0), (25, bV true)] ⟨zo, rfl, zo, zo, zo⟩ ?_
     refine zt ?_
     refine kL [.no] True [(2, bV false)] [] 1 trivial ?_
     refine AW.ret ?_
     exact kD (.inr rfl) [] (P := ((eK k r rn m s sn) = false)) zk (by first | exact oQ zo (by assumption) (iI zo zo (fun j hj => ha j zo)) (by assumption) | exact oU zo | exact eF (iJ zo) | exact eF (iK (k := i) zo dW) | exact oT (by assumption) | exact oR (by assumption))
    ·refine kP (.no :: .no :: .b false :: .no :: .no :: .no :: .i (fN k) :: .b false :: qA 5 (.b false :: qA 5 [.b false, .no])) ((¬ (k = 0)) ∧ (qG .andNot .i64 k 254 = (fN k)) ∧ (¬ ((fN k) ≠ 0)) ∧ (¬ ((c : Int) < 1)) ∧ (¬ ((16 : Int) < (c : Int)))) [(1, rV 0 0), (25, bV false)] ⟨zo, rfl, zo, zo, zo⟩ ?_
     refine uB ?_
     refine AW.seq ?_
     refine kP (qA 4 []) True [(1, rV 0 0), (27, kI (kJ m) c), (28, uV c), (29, iV 0)] trivial ?_
     refine AW.block ?_
     refine kZ 0 hcx (fun (x : {x : Nat // match x with | i => (i ≤ c) ∧ (∀ j, j < i → vmE m j = true)}) => match x with | ⟨i, _⟩ => (⟨[(1, rV 0 0), (27, kI (kJ m) c), (28, uV c), (29, uV i)], [(0, some (59, (nF k r rn m c s sn)))], 1⟩ : ES)) (fun x => match x with | ⟨i, _⟩ => c - i) ⟨(0 : Nat), ⟨jZ, (fun j hj => absurd hj (kd3 j))⟩⟩ [] (P := (kH 0) ∧ (kM (kJ m)) ∧ (kH c) ∧ (kO (c : Int)) ∧ (kO 0) ∧ (kM [iD k, dl r rn, D.sl (kJ m) c, dl s sn])) zk ⟨rfl, rfl, rfl, rfl, rfl, rfl⟩ ?_
     rintro ⟨i, hinv0⟩
     obtain ⟨hi, ha⟩ : (i ≤ c) ∧ (∀ j, j < i → vmE m j = true) := hinv0
     refine qT (l := [(1, rV 0 0), (27, kI (kJ m) c), (28, uV c), (29, uV i)]) (g := [(0, some (59, (nF k r rn m c s sn)))]) (nx := 1) rfl rfl rfl ?_
     by_cases hx5 : (((i : Nat) : Int) < ((c : Nat) : Int))
     ·refine kL [.b true] (((i : Int) < (c : Int))) [(1, rV 0 0), (27, kI (kJ m) c), (28, uV c), (29, uV i), (30, bV true)] [(0, some (59, (nF k r rn m c s sn)))] 1 zo ?_
      refine AW.seq ?_
      refine vP ?_
      refine AW.seq ?_
      refine AW.block ?_
      have hx6 : ((ka0 (ka1 m i ([] : List Int))) ≤ 1000000) := MsW.at (qF : MsW m) _
      refine kP [.no, .n i, .d (dl (ka1 m i ([] : List Int)) (ka0 (ka1 m i ([] : List Int)))), .no, .no] ((kO (i : Int)) ∧ (i < c) ∧ ((ka4 i (kJ m))[0]? = some (dl (ka1 m i ([] : List Int)) (ka0 (ka1 m i ([] : List Int)))))) [(1, rV 0 0), (3, uV i), (4, sV .i64 (ka1 m i ([] : List Int)) (ka0 (ka1 m i ([] : List Int)))), (27, kI (kJ m) c), (28, uV c), (29, uV i)] ⟨rfl, zo, (aB _ _ zB)⟩ ?_
      rcases kb2 (mS (ka1 m i ([] : List Int)) (ka0 (ka1 m i ([] : List Int)))) with hx7 | hx7
      ·rcases kb2 (iY (ka3 i m) (ka1 m i ([] : List Int))) with hx8 | hx8
       ·refine kP (.no :: .call [] (bV true) [] 0 [] none :: qA 5 [.sls 0 i i (kJ (ka3 i m)), .no, .call [] (bV true) [] 0 [] none, .no]) ((Fun 91 [.c (.d (dl (ka1 m i ([] : List Int)) (ka0 (ka1 m i ([] : List Int)))))] (kK []) 0 (bV true) (kK []) 0) ∧ (kH 0) ∧ (kO (i : Int)) ∧ ((0 : Nat) ≤ i) ∧ (i ≤ c) ∧ (i - 0 = i) ∧ (ka3 (i * 1) (ka4 (0 * 1) (kJ m)) = (kJ (ka3 i m))) ∧ (Fun 83 [.c (.d (D.sl (kJ (ka3 i m)) i)), .c (.d (dl (ka1 m i ([] : List Int)) (ka0 (ka1 m i ([] : List Int)))))] (kK []) 0 (bV true) (kK []) 0)) [(1, rV 0 0), (27, kI (kJ m) c), (28, uV c), (29, uV i), (44, bV true)] ⟨(by have h0 := (n7 (ka1 m i ([] : List Int)) (ka0 (ka1 m i ([] : List Int))) rfl yY); rw [hx7] at h0; exact h0), rfl, rfl, zo, zo, zo, (iU _ _), (by have h0 := (s0 (ka3 i m) i (ka1 m i ([] : List Int)) (ka0 (ka1 m i ([] : List Int))) yY rfl zo yY (MsW.take (qF : MsW m) _)); rw [hx8] at h0; exact h0)⟩ ?_
        refine zt ?_
        refine kL [.no] True [(2, bV false)] [] 1 trivial ?_
        refine AW.ret ?_
        exact kD (.inr rfl) [] (P := ((eK k r rn m s sn) = false)) zk (by first | exact oQ zo (by assumption) (iI zo zo (fun j hj => ha j zo)) (by assumption) | exact oU zo | exact eF (iJ zo) | exact eF (iK (k := i) zo dW) | exact oT (by assumption) | exact oR (by assumption))
       ·refine kP (.no :: .call [] (bV true) [] 0 [] none :: qA 5 [.sls 0 i i (kJ (ka3 i m)), .no, .call [] (bV false) [] 0 [] none, .no]) ((Fun 91 [.c (.d (dl (ka1 m i ([] : List Int)) (ka0 (ka1 m i ([] : List Int)))))] (kK []) 0 (bV true) (kK []) 0) ∧ (kH 0) ∧ (kO (i : Int)) ∧ ((0 : Nat) ≤ i) ∧ (i ≤ c) ∧ (i - 0 = i) ∧ (ka3 (i * 1) (ka4 (0 * 1) (kJ m)) = (kJ (ka3 i m))) ∧ (Fun 83 [.c (.d (D.sl (kJ (ka3 i m)) i)), .c (.d (dl (ka1 m i ([] : List Int)) (ka0 (ka1 m i ([] : List Int)))))] (kK []) 0 (bV false) (kK []) 0)) [(1, rV 0 0), (27, kI (kJ m) c), (28, uV c), (29, uV i), (44, bV false)] ⟨(by have h0 := (n7 (ka1 m i ([] : List Int)) (ka0 (ka1 m i ([] : List Int))) rfl yY); rw [hx7] at h0; exact h0), rfl, rfl, zo, zo, zo, (iU _ _), (by have h0 := (s0 (ka3 i m) i (ka1 m i ([] : List Int)) (ka0 (ka1 m i ([] : List Int))) yY rfl zo yY (MsW.take (qF : MsW m) _)); rw [hx8] at h0; exact h0)⟩ ?_
        refine uB ?_
        refine uS [.w, .no] ((-9223372036854775808) ≤ ((i : Int) + 1) ∧ ((i : Int) + 1) ≤ 9223372036854775807) [(1, rV 0 0), (27, kI (kJ m) c), (28, uV c), (29, iV (↑i + 1))] ⟨by omega, by omega⟩ ?_
        exact kW ⟨((i + 1) : Nat), ⟨jZ, (fun j hj => (Nat.lt_succ_iff_lt_or_eq.1 hj).elim (ha j) (fun e9 => by subst e9; exact u09 (by assumption) (by assumption)))⟩⟩ [] (P := (kH 0) ∧ (kM (kJ m)) ∧ (kH c) ∧ (kO (c : Int)) ∧ (((((i + 1) : Nat) : Int) : Int) = ((i : Int) + 1)) ∧ (kM [iD k, dl r rn, D.sl (kJ m) c, dl s sn])) zk ⟨rfl, rfl, rfl, rfl, (by first | rfl | omega | assumption | (simp; done) | (simp; omega)), rfl⟩ (show c - (i + 1) < c - i from (by first | omega | (show _ < _; simp; omega)))
      ·refine kP [.no, .call [] (bV false) [] 0 [] none, .no, .no, .no] (Fun 91 [.c (.d (dl (ka1 m i ([] : List Int)) (ka0 (ka1 m i ([] : List Int)))))] (kK []) 0 (bV false) (kK []) 0) [(1, rV 0 0), (27, kI (kJ m) c), (28, uV c), (29, uV i), (44, bV true)] (by have h0 := (n7 (ka1 m i ([] : List Int)) (ka0 (ka1 m i ([] : List Int))) rfl yY); rw [hx7] at h0; exact h0) ?_
       refine zt ?_
       refine kL [.no] True [(2, bV false)] [] 1 trivial ?_
       refine AW.ret ?_
       exact kD (.inr rfl) [] (P := ((eK k r rn m s sn) = false)) zk (by first | exact oQ zo (by assumption) (iI zo zo (fun j hj => ha j zo)) (by assumption) | exact oU zo | exact eF (iJ zo) | exact eF (iK (k := i) zo dW) | exact oT (by assumption) | exact oR (by assumption))
     ·refine kL [.b false] (¬ ((i : Int) < (c : Int))) [(1, rV 0 0), (27, kI (kJ m) c), (28, uV c), (29, uV i), (30, bV false)] [(0, some (59, (nF k r rn m c s sn)))] 1 zo ?_
      refine AW.seq ?_
      refine zf ?_
      refine AW.exit ?_
      rcases kb2 (f9 r rn 1000 768000) with hx9 | hx9
      ·rcases kb2 (f9 s sn 1 65536) with hx10 | hx10
       ·refine kL [.no, .no, .call [] (bV true) [] 0 [] none, .no, .no, .no, .call [] (bV true) [] 0 [] none, .no, .no] ((Fun 92 [.agg [.d (dl r rn)], iE 1000, iE 768000] (kK []) 0 (bV true) (kK []) 0) ∧ (Fun 92 [.agg [.d (dl s sn)], iE 1, iE 65536] (kK []) 0 (bV true) (kK []) 0)) [(2, bV true)] [] 1 ⟨(by have h0 := (fO r rn 1000 768000 zo zo); rw [hx9] at h0; exact h0), (by have h0 := (fO s sn 1 65536 zo zo); rw [hx10] at h0; exact h0)⟩ ?_
        refine AW.ret ?_
        exact kD (.inr rfl) [] (P := ((eK k r rn m s sn) = true)) zk (by first | exact oQ zo (by assumption) (iI zo zo (fun j hj => ha j zo)) (by assumption) | exact oU zo | exact eF (iJ zo) | exact eF (iK (k := i) zo dW) | exact oT (by assumption) | exact oR (by assumption))
       ·refine kL [.no, .no, .call [] (bV true) [] 0 [] none, .no, .no, .no, .call [] (bV false) [] 0 [] none, .no, .no] ((Fun 92 [.agg [.d (dl r rn)], iE 1000, iE 768000] (kK []) 0 (bV true) (kK []) 0) ∧ (Fun 92 [.agg [.d (dl s sn)], iE 1, iE 65536] (kK []) 0 (bV false) (kK []) 0)) [(2, bV false)] [] 1 ⟨(by have h0 := (fO r rn 1000 768000 zo zo); rw [hx9] at h0; exact h0), (by have h0 := (fO s sn 1 65536 zo zo); rw [hx10] at h0; exact h0)⟩ ?_
        refine AW.ret ?_
        exact kD (.inr rfl) [] (P := ((eK k r rn m s sn) = false)) zk (by first | exact oQ zo (by assumption) (iI zo zo (fun j hj => ha j zo)) (by assumption) | exact oU zo | exact eF (iJ zo) | exact eF (iK (k := i) zo dW) | exact oT (by assumption) | exact oR (by assumption))
      ·refine kL [.no, .no, .call [] (bV false) [] 0 [] none, .no, .no, .no] (Fun 92 [.agg [.d (dl r rn)], iE 1000, iE 768000] (kK []) 0 (bV false) (kK []) 0) [(2, bV false)] [] 1 (by have h0 := (fO r rn 1000 768000 zo zo); rw [hx9] at h0; exact h0) ?_
       refine AW.ret ?_
       exact kD (.inr rfl) [] (P := ((eK k r rn m s sn) = false)) zk (by first | exact oQ zo (by assumption) (iI zo zo (fun j hj => ha j zo)) (by assumption) | exact oU zo | exact eF (iJ zo) | exact eF (iK (k := i) zo dW) | exact oT (by assumption) | exact oR (by assumption))
theorem xF (bs : List Bx) (n : Nat) (hn : ka0 bs = n) (h1 : n ≤ 1000000) (hW : BsW bs) : Fun 19 [.c (.d (D.sl (kF bs) n))] (kK []) 0 (qY (D.lit (.bool (hY bs)))) (kK []) 0 := by
 refine Fun.mk (n := 18) Tryz.func19 rfl rfl (ka5 rfl) ?_
 intro cx hcx
 refine kL [.no] True [(0, kI (kF bs) n)] [] 0 trivial ?_
 refine AW.seq ?_
 refine kP [.no, .no, .no] True [(0, kI (kF bs) n), (5, kI (kF bs) n), (6, uV n), (7, iV 0)] trivial ?_
 refine AW.block ?_
 refine kZ 0 hcx (fun (x : {x : Nat // match x with | i => (i ≤ n) ∧ (∀ j, j < i → vbE bs j = true)}) => match x with | ⟨i, _⟩ => (⟨[(0, kI (kF bs) n), (5, kI (kF bs) n), (6, uV n), (7, uV i)], [], 0⟩ : ES)) (fun x => match x with | ⟨i, _⟩ => n - i) ⟨(0 : Nat), ⟨jZ, (fun j hj => absurd hj (kd3 j))⟩⟩ [] (P := (kM (kF bs)) ∧ (kH n) ∧ (kM (kF bs)) ∧ (kH n) ∧ (kO (n : Int)) ∧ (kO 0)) zk ⟨rfl, rfl, rfl, rfl, rfl, rfl⟩ ?_
 rintro ⟨i, hinv0⟩
 obtain ⟨hi, ha⟩ : (i ≤ n) ∧ (∀ j, j < i → vbE bs j = true) := hinv0
 refine qT (l := [(0, kI (kF bs) n), (5, kI (kF bs) n), (6, uV n), (7, uV i)]) (g := []) (nx := 0) rfl rfl rfl ?_
 by_cases hx1 : (((i : Nat) : Int) < ((n : Nat) : Int))
 ·refine kL [.b true] (((i : Int) < (n : Int))) [(0, kI (kF bs) n), (5, kI (kF bs) n), (6, uV n), (7, uV i), (8, bV true)] [] 0 zo ?_
  refine AW.seq ?_
  refine vP ?_
  refine AW.seq ?_
  refine AW.block ?_
  obtain ⟨hx2, hx3, hx4, hx5, hx6⟩ := BsW.at (qF : BsW bs) (i)
  refine kL [.n i, .ds [iD (qJ bs i), dl (qR bs i) (qM bs i), D.sl (kJ (kY bs i)) (ka0 (kY bs i)), dl (qS bs i) (qN bs i)], .no, .no] ((kO (i : Int)) ∧ (i < n) ∧ (ka3 4 (ka4 (i * 4) (kF bs)) = [iD (qJ bs i), dl (qR bs i) (qM bs i), D.sl (kJ (kY bs i)) (ka0 (kY bs i)), dl (qS bs i) (qN bs i)]) ∧ (([iD (qJ bs i), dl (qR bs i) (qM bs i), D.sl (kJ (kY bs i)) (ka0 (kY bs i)), dl (qS bs i) (qN bs i)] : List D).length = 4)) [(0, kI (kF bs) n), (4, rV 0 0), (5, kI (kF bs) n), (6, uV n), (7, uV i)] [(0, some (59, .ds [iD (qJ bs i), dl (qR bs i) (qM bs i), D.sl (kJ (kY bs i)) (ka0 (kY bs i)), dl (qS bs i) (qN bs i)]))] 1 ⟨rfl, zo, (cN zB), rfl⟩ ?_
  rcases kb2 (eK (qJ bs i) (qR bs i) (qM bs i) (kY bs i) (qS bs i) (qN bs i)) with hx7 | hx7
  ·refine kL [.no, .call [] (bV true) [] 0 [] none, .no] (Fun 47 [.agg [iC (qJ bs i), .d (dl (qR bs i) (qM bs i)), .d (D.sl (kJ (kY bs i)) (ka0 (kY bs i))), .d (dl (qS bs i) (qN bs i))]] (kK []) 0 (bV true) (kK []) 0) [(0, kI (kF bs) n), (5, kI (kF bs) n), (6, uV n), (7, uV i), (13, bV false)] [] 1 (by have h0 := (u19 (qJ bs i) (qR bs i) (qM bs i) (kY bs i) (ka0 (kY bs i)) (qS bs i) (qN bs i) yY yY rfl yY yY yY (vM (qF : BsW bs) _)); rw [hx7] at h0; exact h0) ?_
   refine uB ?_
   refine uS [.w, .no] ((-9223372036854775808) ≤ ((i : Int) + 1) ∧ ((i : Int) + 1) ≤ 9223372036854775807) [(0, kI (kF bs) n), (5, kI (kF bs) n), (6, uV n), (7, iV (↑i + 1))] ⟨by omega, by omega⟩ ?_
   exact kW ⟨((i + 1) : Nat), ⟨jZ, (fun j hj => (Nat.lt_succ_iff_lt_or_eq.1 hj).elim (ha j) (fun e9 => by subst e9; assumption))⟩⟩ [] (P := (kM (kF bs)) ∧ (kH n) ∧ (kM (kF bs)) ∧ (kH n) ∧ (kO (n : Int)) ∧ (((((i + 1) : Nat) : Int) : Int) = ((i : Int) + 1))) zk ⟨rfl, rfl, rfl, rfl, rfl, (by first | rfl | omega | assumption | (simp; done) | (simp; omega))⟩ (show n - (i + 1) < n - i from (by first | omega | (show _ < _; simp; omega)))
  ·refine kL [.no, .call [] (bV false) [] 0 [] none, .no] (Fun 47 [.agg [iC (qJ bs i), .d (dl (qR bs i) (qM bs i)), .d (D.sl (kJ (kY bs i)) (ka0 (kY bs i))), .d (dl (qS bs i) (qN bs i))]] (kK []) 0 (bV false) (kK []) 0) [(0, kI (kF bs) n), (5, kI (kF bs) n), (6, uV n), (7, uV i), (13, bV true)] [] 1 (by have h0 := (u19 (qJ bs i) (qR bs i) (qM bs i) (kY bs i) (ka0 (kY bs i)) (qS bs i) (qN bs i) yY yY rfl yY yY yY (vM (qF : BsW bs) _)); rw [hx7] at h0; exact h0) ?_
   refine zt ?_
   refine kP [.no] True [(2, bV false)] trivial ?_
   refine AW.ret ?_
   exact kD (.inr rfl) [] (P := ((hY bs) = false)) zk (by first | exact k3s zo (fun j hj => ha j zo) | exact k2l zo | exact k7z (k := i) zo (by assumption))
 ·refine kL [.b false] (¬ ((i : Int) < (n : Int))) [(0, kI (kF bs) n), (5, kI (kF bs) n), (6, uV n), (7, uV i), (8, bV false)] [] 0 zo ?_
  refine AW.seq ?_
  refine zf ?_
  refine AW.exit ?_
  by_cases hx8 : (((n : Nat) : Int) ≤ 64)
  ·refine kL [.no, .no, .b true, .no] (((n : Int) ≤ 64)) [(2, bV true)] [] 0 zo ?_
   refine AW.ret ?_
   exact kD (.inr rfl) [] (P := ((hY bs) = true)) zk (by first | exact k3s zo (fun j hj => ha j zo) | exact k2l zo | exact k7z (k := i) zo (by assumption))
  ·refine kL [.no, .no, .b false, .no] (¬ ((n : Int) ≤ 64)) [(2, bV false)] [] 0 zo ?_
   refine AW.ret ?_
   exact kD (.inr rfl) [] (P := ((hY bs) = false)) zk (by first | exact k3s zo (fun j hj => ha j zo) | exact k2l zo | exact k7z (k := i) zo (by assumption))
end Go.Proofs.YtcfmjpnffembpaaGreat
