/- Valid lists of boxes. No statement is proved here. -/
import Derived.Test.YtcfmjpnffembpaaGreatZL10A
import Derived.Test.YtcfmjpnffembpaaGreatZL09C
namespace Go.Proofs.YtcfmjpnffembpaaGreat
open Go.ChangeShapes Go.WideShapes Go.ChangeAt Go.RowKit
open Bool renaming and_false → kc7, eq_false_or_eq_true → ka9, false_and → kh2
open List renaming drop → ka3, drop_drop → kf2, getD → ka1, getD_eq_getElem?_getD → ka7, getElem?_eq_getElem → ka8, length → ka0, length_append → ka6, length_cons → kb0, length_drop → kb3, length_map → kc5, length_nil → kb1, length_replicate → kb4, length_reverse → kc0, length_set → kb8, length_take → kb2, mem_of_getElem? → kd9, mem_of_mem_take → kg8, take → ka5
open Nat renaming le_of_ble_eq_true → ka4, not_lt_zero → kd5, zero_le → ke0
set_option linter.unusedVariables false
set_option linter.unusedSimpArgs false
/-! chapter 10: maps and boxes as data -/
set_option maxHeartbeats 4000000
set_option maxRecDepth 100000
def kI (xs : List (List Int)) : List D := xs.map fun l => D.sl (dI .i64 l) l.length
theorem qC (xs : List (List Int)) : ka0 (kI xs) = ka0 xs := by unfold kI; simp
theorem bU (xs : List (List Int)) (l : List Int) (n : Nat) (h : l.length = n) : kI xs ++ [D.sl (dI .i64 l) n] = kI (xs ++ [l]) := by subst h; unfold kI; simp
theorem vQ (xs : List (List Int)) (i : Nat) (h : i < xs.length) : (ka3 i (kI xs))[0]? = some (D.sl (dI .i64 (ka1 xs i [])) (ka1 xs i []).length) := by
 unfold kI
 rw [List.getElem?_drop, Nat.add_zero, List.getElem?_map, ka8 h, ka7, ka8 h]; rfl
theorem j8 (xs : List (List Int)) (n : Nat) : ka5 (n * 1) (ka3 (0 * 1) (kI xs)) = kI (ka5 n xs) := by unfold kI; simp [List.map_take]
def MsW (xs : List (List Int)) : Prop := ∀ l ∈ xs, ka0 l ≤ 1000000
theorem MsW.at {xs : List (List Int)} (h : MsW xs) (i : Nat) : ka0 (ka1 xs i []) ≤ 1000000 := by
 rw [ka7]
 cases e : xs[i]? with
 | none => exact ke0 _
 | some l => exact h l (kd9 e)
theorem MsW.nil : MsW [] := fun l h => by cases h
theorem MsW.snoc {xs : List (List Int)} {l : List Int} (h : MsW xs) (hl : ka0 l ≤ 1000000) : MsW (xs ++ [l]) := fun m hm => (List.mem_append.1 hm).elim (h m) fun hm => by
 rw [List.mem_singleton.1 hm]; exact hl
theorem MsW.take {xs : List (List Int)} (h : MsW xs) (n : Nat) : MsW (ka5 n xs) := fun m hm => h m (kg8 hm)
def gI (xs : List (List Int)) (m : List Int) : Bool := decide (m ∈ xs)
theorem u6w {xs : List (List Int)} {m : List Int} {k : Nat} (hk : k < xs.length) (h : v8 (ka1 xs k []) m = true) : gI xs m = true := by
 have e : ka1 xs k [] = xs[k] := by rw [ka7, ka8 hk]; rfl
 have h1 := u5q h
 rw [e] at h1
 exact decide_eq_true (h1 ▸ List.getElem_mem hk)
theorem u6x {xs : List (List Int)} {m : List Int} (h : ∀ j, j < xs.length → v8 (ka1 xs j []) m = false) : gI xs m = false := by
 refine decide_eq_false fun hm => ?_
 obtain ⟨j, hj, e⟩ := List.mem_iff_getElem.1 hm
 have h1 := u5p (h j hj)
 have e1 : ka1 xs j [] = xs[j] := by rw [ka7, ka8 hj]; rfl
 exact h1 (by rw [e1, e])
def vmE (xs : List (List Int)) (i : Nat) : Bool := nF (ka1 xs i []) (ka1 xs i []).length && !(gI (ka5 i xs) (ka1 xs i []))
def p8 (xs : List (List Int)) : Bool := decide (1 ≤ xs.length ∧ xs.length ≤ 16 ∧ ∀ i, i < xs.length → vmE xs i = true)
theorem i6 {xs : List (List Int)} (h1 : 1 ≤ xs.length) (h2 : xs.length ≤ 16) (h : ∀ i, i < xs.length → vmE xs i = true) : p8 xs = true := decide_eq_true ⟨h1, h2, h⟩
theorem jT {xs : List (List Int)} {k : Nat} (hk : k < xs.length) (h : vmE xs k = false) : p8 xs = false := decide_eq_false fun h1 => by
 have := h1.2.2 k hk; rw [h] at this; cases this
theorem jS {xs : List (List Int)} (h : xs.length < 1 ∨ 16 < xs.length) : p8 xs = false := decide_eq_false fun h1 => by omega
theorem k63 {xs : List (List Int)} {i : Nat} (h1 : nF (ka1 xs i []) (ka1 xs i []).length = true) (h2 : gI (ka5 i xs) (ka1 xs i []) = false) : vmE xs i = true := by unfold vmE; rw [h1, h2]; rfl
theorem u3y {xs : List (List Int)} {i : Nat} (h1 : nF (ka1 xs i []) (ka1 xs i []).length = false) : vmE xs i = false := by unfold vmE; rw [h1]; rfl
theorem u3x {xs : List (List Int)} {i : Nat} (h2 : gI (ka5 i xs) (ka1 xs i []) = true) : vmE xs i = false := by unfold vmE; rw [h2]; cases nF (ka1 xs i []) (ka1 xs i []).length <;> rfl
def d9 (l : List Int) (n : Nat) (lo hi : Int) : Bool := eX l n && decide (1 ≤ n ∧ lo ≤ ka1 l 0 0 ∧ ka1 l ((n - 1) * 2 + 1) 0 ≤ hi)
theorem u5i {l : List Int} {n : Nat} {lo hi : Int} (h : eX l n = true) (h2 : 1 ≤ n ∧ lo ≤ ka1 l 0 0 ∧ ka1 l ((n - 1) * 2 + 1) 0 ≤ hi) : d9 l n lo hi = true := by unfold d9; rw [h, decide_eq_true h2]; rfl
theorem v1t {l : List Int} {n : Nat} {lo hi : Int} (h : eX l n = false) : d9 l n lo hi = false := by unfold d9; rw [h]; rfl
theorem v1u {l : List Int} {n : Nat} {lo hi : Int} (h2 : ¬ (1 ≤ n ∧ lo ≤ ka1 l 0 0 ∧ ka1 l ((n - 1) * 2 + 1) 0 ≤ hi)) : d9 l n lo hi = false := by unfold d9; rw [decide_eq_false h2]; cases eX l n <;> rfl
structure Bx where
 k : Int
 r : List Int
 rn : Nat
 m : List (List Int)
 s : List Int
 sn : Nat
def bx0 : Bx := ⟨0, [], 0, [], [], 0⟩
def bxR (b : Bx) : List D := [D.lit (.int .i64 b.k), D.sl (dI .i64 b.r) b.rn, D.sl (kI b.m) b.m.length, D.sl (dI .i64 b.s) b.sn]
def kE : List Bx → List D
 | [] => []
 | b :: r => bxR b ++ kE r
theorem qB : ∀ xs : List Bx, ka0 (kE xs) = ka0 xs * 4
 | [] => rfl
 | b :: r => by show ka0 (bxR b ++ kE r) = (ka0 r + 1) * 4; rw [ka6, qB r]; show 4 + _ = _; omega
theorem lI : ∀ a b : List Bx, kE (a ++ b) = kE a ++ kE b
 | [], _ => rfl
 | l :: r, b => by show bxR l ++ kE (r ++ b) = bxR l ++ kE r ++ kE b; rw [lI r b, List.append_assoc]
theorem lH : ∀ (i : Nat) (xs : List Bx), ka3 (i * 4) (kE xs) = kE (ka3 i xs)
 | 0, _ => rfl
 | i + 1, [] => by simp [kE]
 | i + 1, l :: r => by
  show ka3 ((i + 1) * 4) (bxR l ++ kE r) = kE (ka3 i r)
  rw [show (i + 1) * 4 = 4 + i * 4 by omega, ← kf2, ← lH i r]; rfl
theorem pO : ∀ (i : Nat) (xs : List Bx), ka5 (i * 4) (kE xs) = kE (ka5 i xs)
 | 0, _ => rfl
 | i + 1, [] => by simp [kE]
 | i + 1, l :: r => by
  show ka5 ((i + 1) * 4) (bxR l ++ kE r) = bxR l ++ kE (ka5 i r)
  rw [← pO i r, show (i + 1) * 4 = ka0 (bxR l) + i * 4 by show _ = 4 + _; omega, List.take_length_add_append]
def aB (xs : List Bx) (i : Nat) : Bx := ka1 xs i bx0
def kQ (xs : List Bx) (i : Nat) : Int := (aB xs i).k
def kZ (xs : List Bx) (i : Nat) : List Int := (aB xs i).r
def kX (xs : List Bx) (i : Nat) : Nat := (aB xs i).rn
def kL (xs : List Bx) (i : Nat) : List (List Int) := (aB xs i).m
def qA (xs : List Bx) (i : Nat) : List Int := (aB xs i).s
def k8 (xs : List Bx) (i : Nat) : Nat := (aB xs i).sn
theorem u3c {xs : List Bx} {i : Nat} (h : i < ka0 xs) : kE (ka3 i xs) = bxR (aB xs i) ++ kE (ka3 (i + 1) xs) := by
 have e : aB xs i = xs[i] := by unfold aB; rw [ka7, ka8 h]; rfl
 rw [List.drop_eq_getElem_cons h, e]; rfl
theorem yV {xs : List Bx} {i : Nat} (h : i < ka0 xs) : ka5 4 (ka3 (i * 4) (kE xs)) = [D.lit (.int .i64 (kQ xs i)), D.sl (dI .i64 (kZ xs i)) (kX xs i), D.sl (kI (kL xs i)) (ka0 (kL xs i)), D.sl (dI .i64 (qA xs i)) (k8 xs i)] := by
 rw [lH, u3c h]; rfl
def BxW (b : Bx) : Prop := ka0 b.r = b.rn * 2 ∧ ka0 b.s = b.sn * 2 ∧ b.rn ≤ 1000000 ∧ b.sn ≤ 1000000 ∧ ka0 b.m ≤ 1000000 ∧ MsW b.m
def BsW (xs : List Bx) : Prop := ∀ b ∈ xs, BxW b
theorem v0u : BxW bx0 := ⟨rfl, rfl, ke0 _, ke0 _, ke0 _, MsW.nil⟩
theorem BsW.get {xs : List Bx} (h : BsW xs) (i : Nat) : BxW (aB xs i) := by
 unfold aB
 rw [ka7]
 cases e : xs[i]? with
 | none => exact v0u
 | some l => exact h l (kd9 e)
theorem BsW.at {xs : List Bx} (h : BsW xs) (i : Nat) : ka0 (kZ xs i) = kX xs i * 2 ∧ ka0 (qA xs i) = k8 xs i * 2 ∧ kX xs i ≤ 1000000 ∧ k8 xs i ≤ 1000000 ∧ ka0 (kL xs i) ≤ 1000000 := by
 have h1 := h.get i
 exact ⟨h1.1, h1.2.1, h1.2.2.1, h1.2.2.2.1, h1.2.2.2.2.1⟩
theorem BsW.ms {xs : List Bx} (h : BsW xs) (i : Nat) : MsW (kL xs i) := (h.get i).2.2.2.2.2
theorem BsW.take {xs : List Bx} (h : BsW xs) (n : Nat) : BsW (ka5 n xs) := fun m hm => h m (kg8 hm)
theorem BsW.drop {xs : List Bx} (h : BsW xs) (n : Nat) : BsW (ka3 n xs) := fun m hm => h m (List.mem_of_mem_drop hm)
theorem BsW.app {xs ys : List Bx} (h : BsW xs) (h2 : BsW ys) : BsW (xs ++ ys) := fun m hm => (List.mem_append.1 hm).elim (h m) (h2 m)
theorem BsW.nil : BsW [] := fun l h => by cases h
theorem BsW.one {b : Bx} (h : BxW b) : BsW [b] := fun m hm => by rw [List.mem_singleton.1 hm]; exact h
def fO (k : Int) : Int := qG .andNot .i64 k 254
def dE (k : Int) : Int := qG .and .i64 k 1
def jH (k : Int) (q : Nat) : Bool := decide (1 ≤ q ∧ q ≤ 7 ∧ dE (k / ((2 ^ q : Nat) : Int)) = 1)
def d5 (k : Int) (r : List Int) (rn : Nat) (m : List (List Int)) (s : List Int) (sn : Nat) : Bool := decide (¬ k = 0 ∧ fO k = 0) && (d9 r rn 1000 768000 && (p8 m && d9 s sn 1 65536))
def vbE (xs : List Bx) (i : Nat) : Bool := d5 (kQ xs i) (kZ xs i) (kX xs i) (kL xs i) (qA xs i) (k8 xs i)
def cQ (xs : List Bx) : Bool := decide (xs.length ≤ 64 ∧ ∀ i, i < xs.length → vbE xs i = true)
theorem k64 {xs : List Bx} (h2 : xs.length ≤ 64) (h : ∀ i, i < xs.length → vbE xs i = true) : cQ xs = true := decide_eq_true ⟨h2, h⟩
theorem u1j {xs : List Bx} {k : Nat} (hk : k < xs.length) (h : vbE xs k = false) : cQ xs = false := decide_eq_false fun h1 => by
 have := h1.2 k hk; rw [h] at this; cases this
theorem k4s {xs : List Bx} (h : 64 < xs.length) : cQ xs = false := decide_eq_false fun h1 => by omega
theorem mT {k : Int} {r : List Int} {rn : Nat} {m : List (List Int)} {s : List Int} {sn : Nat} (h1 : ¬ k = 0 ∧ fO k = 0) (h2 : d9 r rn 1000 768000 = true) (h3 : p8 m = true) (h4 : d9 s sn 1 65536 = true) : d5 k r rn m s sn = true := by
 unfold d5; rw [h2, h3, h4, decide_eq_true h1]; rfl
theorem rR {k : Int} {r : List Int} {rn : Nat} {m : List (List Int)} {s : List Int} {sn : Nat} (h1 : ¬ (¬ k = 0 ∧ fO k = 0)) : d5 k r rn m s sn = false := by
 unfold d5; rw [decide_eq_false h1]; rfl
theorem rQ {k : Int} {r : List Int} {rn : Nat} {m : List (List Int)} {s : List Int} {sn : Nat} (h2 : d9 r rn 1000 768000 = false) : d5 k r rn m s sn = false := by
 unfold d5; rw [h2, kh2, kc7]
theorem fJ {k : Int} {r : List Int} {rn : Nat} {m : List (List Int)} {s : List Int} {sn : Nat} (h3 : p8 m = false) : d5 k r rn m s sn = false := by
 unfold d5; rw [h3, kh2, kc7, kc7]
theorem rP {k : Int} {r : List Int} {rn : Nat} {m : List (List Int)} {s : List Int} {sn : Nat} (h4 : d9 s sn 1 65536 = false) : d5 k r rn m s sn = false := by
 unfold d5; rw [h4, kc7, kc7, kc7]
def kF (xs : List Bx) : List Bx := if cQ xs = true then xs else []
theorem k4b {xs : List Bx} (h : cQ xs = true) : kF xs = xs := if_pos h
theorem u0b {xs : List Bx} (h : cQ xs = false) : kF xs = [] := if_neg (by rw [h]; decide)
theorem bK {xs : List Bx} (h : BsW xs) : BsW (kF xs) := by unfold kF; split; exact h; exact BsW.nil
theorem mV (xs : List Bx) : ka0 (kF xs) ≤ ka0 xs := by unfold kF; split; exact Nat.le_refl _; exact ke0 _
theorem l0 {p : Prop} (h : p := by first | omega | assumption | simp) : p := h
theorem k1j {p : Prop} (h : p := by first | omega | (simp only [qC, qB, ka6, kb0, kb1, kb2, kb3] <;> omega)) : p := h
theorem vC {p : Prop} (h : p := by first | omega | with_reducible assumption | (simp only [qC, qB, ka6, kb0, kb1, kb2, kb3, kb4, kb8] <;> omega) | rfl | assumption) : p := h
theorem xO (ms : List (List Int)) (c : Nat) (m : List Int) (n : Nat) (hc : ka0 ms = c) (hn : ka0 m = n) (h1 : c ≤ 1000000) (h2 : n ≤ 1000000) (hW : MsW ms) : Fun 83 [.c (.d (D.sl (kI ms) c)), .c (.d (D.sl (dI .i64 m) n))] (kH []) 0 (uP (D.lit (.bool (gI ms m)))) (kH []) 0 := by
 refine Fun.mk (n := 17) Tryz.func83 rfl rfl (ka4 rfl) ?_
 intro cx hcx
 refine kK [.no] True [(0, kG (kI ms) c), (1, sV .i64 m n)] [] 0 trivial ?_
 refine AW.seq ?_
 refine kO [.no, .no, .no] True [(1, sV .i64 m n), (7, kG (kI ms) c), (8, uV c), (9, iV 0)] trivial ?_
 refine AW.block ?_
 refine kY 0 hcx (fun (x : {x : Nat // match x with | k => (k ≤ c) ∧ (∀ j, j < k → v8 (ka1 ms j []) m = false)}) => match x with | ⟨k, _⟩ => (⟨[(1, sV .i64 m n), (7, kG (kI ms) c), (8, uV c), (9, uV k)], [], 0⟩ : ES)) (fun x => match x with | ⟨k, _⟩ => c - k) ⟨(0 : Nat), ⟨l0, (fun j hj => absurd hj (kd5 j))⟩⟩ [] (P := (kM (dI .i64 m)) ∧ (kJ n) ∧ (kM (kI ms)) ∧ (kJ c) ∧ (kN (c : Int)) ∧ (kN 0)) zk ⟨rfl, rfl, rfl, rfl, rfl, rfl⟩ ?_
 rintro ⟨k, hinv0⟩
 obtain ⟨hk, ha⟩ : (k ≤ c) ∧ (∀ j, j < k → v8 (ka1 ms j []) m = false) := hinv0
 refine qR (l := [(1, sV .i64 m n), (7, kG (kI ms) c), (8, uV c), (9, uV k)]) (g := []) (nx := 0) rfl rfl rfl ?_
 by_cases hx1 : (((k : Nat) : Int) < ((c : Nat) : Int))
 ·refine kK [.b true] (((k : Int) < (c : Int))) [(1, sV .i64 m n), (7, kG (kI ms) c), (8, uV c), (9, uV k), (10, bV true)] [] 0 zo ?_
  refine AW.seq ?_
  refine vB ?_
  refine AW.seq ?_
  refine AW.block ?_
  have hx2 : ((ka0 (ka1 ms k ([] : List Int))) ≤ 1000000) := MsW.at (qD : MsW ms) _
  refine kO [.n k, .d (dl (ka1 ms k ([] : List Int)) (ka0 (ka1 ms k ([] : List Int)))), .no] ((kN (k : Int)) ∧ (k < c) ∧ ((ka3 k (kI ms))[0]? = some (dl (ka1 ms k ([] : List Int)) (ka0 (ka1 ms k ([] : List Int)))))) [(1, sV .i64 m n), (6, sV .i64 (ka1 ms k ([] : List Int)) (ka0 (ka1 ms k ([] : List Int)))), (7, kG (kI ms) c), (8, uV c), (9, uV k)] ⟨rfl, zo, (vQ _ _ k1j)⟩ ?_
  rcases ka9 (v8 (ka1 ms k ([] : List Int)) m) with hx3 | hx3
  ·refine kO [.no, .no, .call [] (bV true) [] 0 [] none] (Fun 94 [.c (.d (dl (ka1 ms k ([] : List Int)) (ka0 (ka1 ms k ([] : List Int))))), .c (.d (dl m n))] (kH []) 0 (bV true) (kH []) 0) [(1, sV .i64 m n), (7, kG (kI ms) c), (8, uV c), (9, uV k), (15, bV true)] (by have h0 := (bX (ka1 ms k ([] : List Int)) m (ka0 (ka1 ms k ([] : List Int))) n rfl zo vC zo); rw [hx3] at h0; exact h0) ?_
   refine zt ?_
   refine kO [.no] True [(4, bV true)] trivial ?_
   refine AW.ret ?_
   exact kA (.inr rfl) [] (P := ((gI ms m) = true)) zk (by first | exact u6w (k := k) zo (by assumption) | exact u6x (fun j hj => ha j zo))
  ·refine kO [.no, .no, .call [] (bV false) [] 0 [] none] (Fun 94 [.c (.d (dl (ka1 ms k ([] : List Int)) (ka0 (ka1 ms k ([] : List Int))))), .c (.d (dl m n))] (kH []) 0 (bV false) (kH []) 0) [(1, sV .i64 m n), (7, kG (kI ms) c), (8, uV c), (9, uV k), (15, bV false)] (by have h0 := (bX (ka1 ms k ([] : List Int)) m (ka0 (ka1 ms k ([] : List Int))) n rfl zo vC zo); rw [hx3] at h0; exact h0) ?_
   refine q8 ?_
   refine uT [.w, .no] ((-9223372036854775808) ≤ ((k : Int) + 1) ∧ ((k : Int) + 1) ≤ 9223372036854775807) [(1, sV .i64 m n), (7, kG (kI ms) c), (8, uV c), (9, iV (↑k + 1))] ⟨by omega, by omega⟩ ?_
   exact kW ⟨((k + 1) : Nat), ⟨l0, (fun j hj => (Nat.lt_succ_iff_lt_or_eq.1 hj).elim (ha j) (fun e9 => by subst e9; assumption))⟩⟩ [] (P := (kM (dI .i64 m)) ∧ (kJ n) ∧ (kM (kI ms)) ∧ (kJ c) ∧ (kN (c : Int)) ∧ (((((k + 1) : Nat) : Int) : Int) = ((k : Int) + 1))) zk ⟨rfl, rfl, rfl, rfl, rfl, (by first | rfl | omega | assumption | (simp; done) | (simp; omega))⟩ (show c - (k + 1) < c - k from (by first | omega | (show _ < _; simp; omega)))
 ·refine kK [.b false] (¬ ((k : Int) < (c : Int))) [(1, sV .i64 m n), (7, kG (kI ms) c), (8, uV c), (9, uV k), (10, bV false)] [] 0 zo ?_
  refine AW.seq ?_
  refine zf ?_
  refine AW.exit ?_
  refine kK [.no] True [(4, bV false)] [] 0 trivial ?_
  refine AW.ret ?_
  exact kA (.inr rfl) [] (P := ((gI ms m) = false)) zk (by first | exact u6w (k := k) zo (by assumption) | exact u6x (fun j hj => ha j zo))
theorem dS {p : Prop} (h : p := by first | (rw [kf2]; exact q6 _ _ _ (by first | omega | (simp only [qC, qB, qQ, ka6, kb0, kb1, kb2, kb3, kb4, kb8, kc5, kc0, Nat.mul_one] <;> omega) | rfl)) | (rw [kf2, Nat.add_comm]; exact q6 _ _ _ (by first | omega | (simp only [qC, qB, qQ, ka6, kb0, kb1, kb2, kb3, kb4, kb8, kc5, kc0, Nat.mul_one] <;> omega) | rfl))) : p := h
theorem dR {p : Prop} (h : p := by first | exact u5i (by assumption) (by omega) | exact v1t (by assumption) | exact v1u (by omega)) : p := h
theorem gP (l : List Int) (n : Nat) (lo hi : Int) (hl : ka0 l = n * 2) (hb : n ≤ 1000000) : Fun 92 [.agg [.d (D.sl (dI .i64 l) n)], iE lo, iE hi] (kH []) 0 (uP (D.lit (.bool (d9 l n lo hi)))) (kH []) 0 := by
 refine Fun.mk (n := 37) Tryz.func92 rfl rfl (ka4 rfl) ?_
 intro cx hcx
 refine kK [.no, .no] True [(1, iV lo), (2, iV hi), (3, rV 0 0)] [(0, some (56, .ds [dl l n]))] 1 trivial ?_
 refine kO (qE 4 []) True [(1, iV lo), (2, iV hi), (3, rV 0 0), (7, uV n)] trivial ?_
 rcases ka9 (eX l n) with hx1 | hx1
 ·by_cases hx2 : ((0 : Int) < ((n : Nat) : Int))
  ·by_cases hx3 : (lo ≤ (ka1 l 0 0))
   ·by_cases hx4 : ((ka1 l (((n - 1) * 2) + 1) 0) ≤ hi)
    ·refine kK (.no :: .call [] (bV true) [] 0 [] none :: .no :: .no :: .b true :: qE 4 (.n 0 :: .no :: .d (D.lit (.int .i64 (ka1 l 0 0))) :: .no :: .b true :: qE 5 [.w, .n (n - 1), .no, .d (D.lit (.int .i64 (ka1 l (((n - 1) * 2) + 1) 0))), .no, .b true, .no, .no])) ((Fun 134 [.agg [.d (dl l n)]] (kH []) 0 (bV true) (kH []) 0) ∧ (((0 : Int) < (n : Int))) ∧ (kN 0) ∧ ((0 : Nat) < n) ∧ ((ka3 0 (ka3 0 (dI .i64 l)))[0]? = some (D.lit (.int .i64 (ka1 l 0 0)))) ∧ ((lo ≤ (ka1 l 0 0))) ∧ ((-9223372036854775808) ≤ ((n : Int) - 1) ∧ ((n : Int) - 1) ≤ 9223372036854775807) ∧ ((((n : Int) - 1) : Int) = (((n - 1) : Nat) : Int)) ∧ ((n - 1) < n) ∧ ((ka3 1 (ka3 ((n - 1) * 2) (dI .i64 l)))[0]? = some (D.lit (.int .i64 (ka1 l (((n - 1) * 2) + 1) 0)))) ∧ (((ka1 l (((n - 1) * 2) + 1) 0) ≤ hi))) [(6, bV true)] [] 1 ⟨(by have h0 := (c8 l n zo zo); rw [hx1] at h0; exact h0), zo, rfl, zo, dS, zo, ⟨by omega, by omega⟩, (by first | rfl | omega), zo, dS, zo⟩ ?_
     refine AW.ret ?_
     exact kA (.inr rfl) [] (P := ((d9 l n lo hi) = true)) zk dR
    ·refine kK (.no :: .call [] (bV true) [] 0 [] none :: .no :: .no :: .b true :: qE 4 (.n 0 :: .no :: .d (D.lit (.int .i64 (ka1 l 0 0))) :: .no :: .b true :: qE 5 [.w, .n (n - 1), .no, .d (D.lit (.int .i64 (ka1 l (((n - 1) * 2) + 1) 0))), .no, .b false, .no, .no])) ((Fun 134 [.agg [.d (dl l n)]] (kH []) 0 (bV true) (kH []) 0) ∧ (((0 : Int) < (n : Int))) ∧ (kN 0) ∧ ((0 : Nat) < n) ∧ ((ka3 0 (ka3 0 (dI .i64 l)))[0]? = some (D.lit (.int .i64 (ka1 l 0 0)))) ∧ ((lo ≤ (ka1 l 0 0))) ∧ ((-9223372036854775808) ≤ ((n : Int) - 1) ∧ ((n : Int) - 1) ≤ 9223372036854775807) ∧ ((((n : Int) - 1) : Int) = (((n - 1) : Nat) : Int)) ∧ ((n - 1) < n) ∧ ((ka3 1 (ka3 ((n - 1) * 2) (dI .i64 l)))[0]? = some (D.lit (.int .i64 (ka1 l (((n - 1) * 2) + 1) 0)))) ∧ (¬ ((ka1 l (((n - 1) * 2) + 1) 0) ≤ hi))) [(6, bV false)] [] 1 ⟨(by have h0 := (c8 l n zo zo); rw [hx1] at h0; exact h0), zo, rfl, zo, dS, zo, ⟨by omega, by omega⟩, (by first | rfl | omega), zo, dS, zo⟩ ?_
     refine AW.ret ?_
     exact kA (.inr rfl) [] (P := ((d9 l n lo hi) = false)) zk dR
   ·refine kK (.no :: .call [] (bV true) [] 0 [] none :: .no :: .no :: .b true :: qE 4 (.n 0 :: .no :: .d (D.lit (.int .i64 (ka1 l 0 0))) :: .no :: .b false :: qE 4 [])) ((Fun 134 [.agg [.d (dl l n)]] (kH []) 0 (bV true) (kH []) 0) ∧ (((0 : Int) < (n : Int))) ∧ (kN 0) ∧ ((0 : Nat) < n) ∧ ((ka3 0 (ka3 0 (dI .i64 l)))[0]? = some (D.lit (.int .i64 (ka1 l 0 0)))) ∧ (¬ (lo ≤ (ka1 l 0 0)))) [(6, bV false)] [] 1 ⟨(by have h0 := (c8 l n zo zo); rw [hx1] at h0; exact h0), zo, rfl, zo, dS, zo⟩ ?_
    refine AW.ret ?_
    exact kA (.inr rfl) [] (P := ((d9 l n lo hi) = false)) zk dR
  ·refine kK (.no :: .call [] (bV true) [] 0 [] none :: .no :: .no :: .b false :: qE 6 []) ((Fun 134 [.agg [.d (dl l n)]] (kH []) 0 (bV true) (kH []) 0) ∧ (¬ ((0 : Int) < (n : Int)))) [(6, bV false)] [] 1 ⟨(by have h0 := (c8 l n zo zo); rw [hx1] at h0; exact h0), zo⟩ ?_
   refine AW.ret ?_
   exact kA (.inr rfl) [] (P := ((d9 l n lo hi) = false)) zk dR
 ·refine kK (.no :: .call [] (bV false) [] 0 [] none :: qE 7 []) (Fun 134 [.agg [.d (dl l n)]] (kH []) 0 (bV false) (kH []) 0) [(6, bV false)] [] 1 (by have h0 := (c8 l n zo zo); rw [hx1] at h0; exact h0) ?_
  refine AW.ret ?_
  exact kA (.inr rfl) [] (P := ((d9 l n lo hi) = false)) zk dR
theorem mX (l : List Int) (n : Nat) (lo hi : Int) (hl : ka0 l = n * 2) (hb : n ≤ 1000000) : Fun 87 [.agg [.d (D.sl (dI .i64 l) n)], iE lo, iE hi] (kH []) 0 (uP (D.lit (.bool (d9 l n lo hi)))) (kH []) 0 := by
 refine Fun.mk (n := 37) Tryz.func87 rfl rfl (ka4 rfl) ?_
 intro cx hcx
 refine kK [.no, .no] True [(1, iV lo), (2, iV hi), (3, rV 0 0)] [(0, some (56, .ds [dl l n]))] 1 trivial ?_
 refine kO [.no, .no, .no, .w, .no] ((-9223372036854775808) ≤ ((n : Int) - 1) ∧ ((n : Int) - 1) ≤ 9223372036854775807) [(1, iV lo), (2, iV hi), (3, rV 0 0), (7, iV (↑n - 1))] ⟨by omega, by omega⟩ ?_
 by_cases hx1 : ((0 : Int) ≤ (((n : Nat) : Int) - 1))
 ·rcases ka9 (eX l n) with hx2 | hx2
  ·by_cases hx3 : (lo ≤ (ka1 l 0 0))
   ·by_cases hx4 : ((ka1 l (((n - 1) * 2) + 1) 0) ≤ hi)
    ·refine kK (.no :: .b true :: .no :: .no :: .call [] (bV true) [] 0 [] none :: qE 4 (.n 0 :: .no :: .d (D.lit (.int .i64 (ka1 l 0 0))) :: .no :: .b true :: qE 5 [.n (n - 1), .no, .d (D.lit (.int .i64 (ka1 l (((n - 1) * 2) + 1) 0))), .no, .b true, .no, .no])) ((((0 : Int) ≤ ((n : Int) - 1))) ∧ (Fun 130 [.agg [.d (dl l n)]] (kH []) 0 (bV true) (kH []) 0) ∧ (kN 0) ∧ ((0 : Nat) < n) ∧ ((ka3 0 (ka3 0 (dI .i64 l)))[0]? = some (D.lit (.int .i64 (ka1 l 0 0)))) ∧ ((lo ≤ (ka1 l 0 0))) ∧ ((((n : Int) - 1) : Int) = (((n - 1) : Nat) : Int)) ∧ ((n - 1) < n) ∧ ((ka3 1 (ka3 ((n - 1) * 2) (dI .i64 l)))[0]? = some (D.lit (.int .i64 (ka1 l (((n - 1) * 2) + 1) 0)))) ∧ (((ka1 l (((n - 1) * 2) + 1) 0) ≤ hi))) [(6, bV true)] [] 1 ⟨zo, (by have h0 := (iH l n zo zo); rw [hx2] at h0; exact h0), rfl, zo, dS, zo, (by first | rfl | omega), zo, dS, zo⟩ ?_
     refine AW.ret ?_
     exact kA (.inr rfl) [] (P := ((d9 l n lo hi) = true)) zk dR
    ·refine kK (.no :: .b true :: .no :: .no :: .call [] (bV true) [] 0 [] none :: qE 4 (.n 0 :: .no :: .d (D.lit (.int .i64 (ka1 l 0 0))) :: .no :: .b true :: qE 5 [.n (n - 1), .no, .d (D.lit (.int .i64 (ka1 l (((n - 1) * 2) + 1) 0))), .no, .b false, .no, .no])) ((((0 : Int) ≤ ((n : Int) - 1))) ∧ (Fun 130 [.agg [.d (dl l n)]] (kH []) 0 (bV true) (kH []) 0) ∧ (kN 0) ∧ ((0 : Nat) < n) ∧ ((ka3 0 (ka3 0 (dI .i64 l)))[0]? = some (D.lit (.int .i64 (ka1 l 0 0)))) ∧ ((lo ≤ (ka1 l 0 0))) ∧ ((((n : Int) - 1) : Int) = (((n - 1) : Nat) : Int)) ∧ ((n - 1) < n) ∧ ((ka3 1 (ka3 ((n - 1) * 2) (dI .i64 l)))[0]? = some (D.lit (.int .i64 (ka1 l (((n - 1) * 2) + 1) 0)))) ∧ (¬ ((ka1 l (((n - 1) * 2) + 1) 0) ≤ hi))) [(6, bV false)] [] 1 ⟨zo, (by have h0 := (iH l n zo zo); rw [hx2] at h0; exact h0), rfl, zo, dS, zo, (by first | rfl | omega), zo, dS, zo⟩ ?_
     refine AW.ret ?_
     exact kA (.inr rfl) [] (P := ((d9 l n lo hi) = false)) zk dR
   ·refine kK (.no :: .b true :: .no :: .no :: .call [] (bV true) [] 0 [] none :: qE 4 (.n 0 :: .no :: .d (D.lit (.int .i64 (ka1 l 0 0))) :: .no :: .b false :: qE 4 [])) ((((0 : Int) ≤ ((n : Int) - 1))) ∧ (Fun 130 [.agg [.d (dl l n)]] (kH []) 0 (bV true) (kH []) 0) ∧ (kN 0) ∧ ((0 : Nat) < n) ∧ ((ka3 0 (ka3 0 (dI .i64 l)))[0]? = some (D.lit (.int .i64 (ka1 l 0 0)))) ∧ (¬ (lo ≤ (ka1 l 0 0)))) [(6, bV false)] [] 1 ⟨zo, (by have h0 := (iH l n zo zo); rw [hx2] at h0; exact h0), rfl, zo, dS, zo⟩ ?_
    refine AW.ret ?_
    exact kA (.inr rfl) [] (P := ((d9 l n lo hi) = false)) zk dR
  ·refine kK (.no :: .b true :: .no :: .no :: .call [] (bV false) [] 0 [] none :: qE 6 []) ((((0 : Int) ≤ ((n : Int) - 1))) ∧ (Fun 130 [.agg [.d (dl l n)]] (kH []) 0 (bV false) (kH []) 0)) [(6, bV false)] [] 1 ⟨zo, (by have h0 := (iH l n zo zo); rw [hx2] at h0; exact h0)⟩ ?_
   refine AW.ret ?_
   exact kA (.inr rfl) [] (P := ((d9 l n lo hi) = false)) zk dR
 ·refine kK (.no :: .b false :: qE 7 []) (¬ ((0 : Int) ≤ ((n : Int) - 1))) [(6, bV false)] [] 1 zo ?_
  refine AW.ret ?_
  exact kA (.inr rfl) [] (P := ((d9 l n lo hi) = false)) zk dR
theorem eT {p : Prop} (h : p := by first | exact u3y (by assumption) | exact u3x (by assumption)) : p := h
abbrev oT (k : Int) (r : List Int) (rn : Nat) (m : List (List Int)) (c : Nat) (s : List Int) (sn : Nat) : BC := .ds [iD k, D.sl (dI .i64 r) rn, D.sl (kI m) c, D.sl (dI .i64 s) sn]
theorem u54 (k : Int) (r : List Int) (rn : Nat) (m : List (List Int)) (c : Nat) (s : List Int) (sn : Nat) (hr : ka0 r = rn * 2) (hs : ka0 s = sn * 2) (hc : ka0 m = c) (h1 : rn ≤ 1000000) (h2 : sn ≤ 1000000) (h3 : c ≤ 1000000) (hW : MsW m) : Fun 47 [.agg [iC k, .d (D.sl (dI .i64 r) rn), .d (D.sl (kI m) c), .d (D.sl (dI .i64 s) sn)]] (kH []) 0 (uP (D.lit (.bool (d5 k r rn m s sn)))) (kH []) 0 := by
 refine Fun.mk (n := 54) Tryz.func47 rfl rfl (ka4 rfl) ?_
 intro cx hcx
 refine kK [.no, .no] True [(1, rV 0 0)] [(0, some (59, (oT k r rn m c s sn)))] 1 trivial ?_
 refine AW.seq ?_
 by_cases hx1 : (k = 0)
 ·refine kO (.no :: .no :: .b true :: qE 6 []) ((k = 0)) [(1, rV 0 0), (25, bV true)] zo ?_
  refine zt ?_
  refine kK [.no] True [(2, bV false)] [] 1 trivial ?_
  refine AW.ret ?_
  exact kA (.inr rfl) [] (P := ((d5 k r rn m s sn) = false)) zk (by first | exact mT zo (by assumption) (i6 zo zo (fun j hj => ha j zo)) (by assumption) | exact rR zo | exact fJ (jS zo) | exact fJ (jT (k := i) zo eT) | exact rQ (by assumption) | exact rP (by assumption))
 ·by_cases hx2 : ((fO k) ≠ 0)
  ·refine kO [.no, .no, .b false, .no, .no, .no, .i (fO k), .b true, .no, .no, .no, .no, .no] ((¬ (k = 0)) ∧ (qG .andNot .i64 k 254 = (fO k)) ∧ (((fO k) ≠ 0))) [(1, rV 0 0), (25, bV true)] ⟨zo, rfl, zo⟩ ?_
   refine zt ?_
   refine kK [.no] True [(2, bV false)] [] 1 trivial ?_
   refine AW.ret ?_
   exact kA (.inr rfl) [] (P := ((d5 k r rn m s sn) = false)) zk (by first | exact mT zo (by assumption) (i6 zo zo (fun j hj => ha j zo)) (by assumption) | exact rR zo | exact fJ (jS zo) | exact fJ (jT (k := i) zo eT) | exact rQ (by assumption) | exact rP (by assumption))
  ·by_cases hx3 : (((c : Nat) : Int) < 1)
   ·refine kO (.no :: .no :: .b false :: .no :: .no :: .no :: .i (fO k) :: .b false :: qE 5 [.b true, .no, .no, .no]) ((¬ (k = 0)) ∧ (qG .andNot .i64 k 254 = (fO k)) ∧ (¬ ((fO k) ≠ 0)) ∧ (((c : Int) < 1))) [(1, rV 0 0), (25, bV true)] ⟨zo, rfl, zo, zo⟩ ?_
    refine zt ?_
    refine kK [.no] True [(2, bV false)] [] 1 trivial ?_
    refine AW.ret ?_
    exact kA (.inr rfl) [] (P := ((d5 k r rn m s sn) = false)) zk (by first | exact mT zo (by assumption) (i6 zo zo (fun j hj => ha j zo)) (by assumption) | exact rR zo | exact fJ (jS zo) | exact fJ (jT (k := i) zo eT) | exact rQ (by assumption) | exact rP (by assumption))
   ·by_cases hx4 : ((16 : Int) < ((c : Nat) : Int))
    ·refine kO (.no :: .no :: .b false :: .no :: .no :: .no :: .i (fO k) :: .b false :: qE 5 (.b false :: qE 5 [.b true, .no])) ((¬ (k = 0)) ∧ (qG .andNot .i64 k 254 = (fO k)) ∧ (¬ ((fO k) ≠ 0)) ∧ (¬ ((c : Int) < 1)) ∧ (((16 : Int) < (c : Int)))) [(1, rV 0 0), (25, bV true)] ⟨zo, rfl, zo, zo, zo⟩ ?_
     refine zt ?_
     refine kK [.no] True [(2, bV false)] [] 1 trivial ?_
     refine AW.ret ?_
     exact kA (.inr rfl) [] (P := ((d5 k r rn m s sn) = false)) zk (by first | exact mT zo (by assumption) (i6 zo zo (fun j hj => ha j zo)) (by assumption) | exact rR zo | exact fJ (jS zo) | exact fJ (jT (k := i) zo eT) | exact rQ (by assumption) | exact rP (by assumption))
    ·refine kO (.no :: .no :: .b false :: .no :: .no :: .no :: .i (fO k) :: .b false :: qE 5 (.b false :: qE 5 [.b false, .no])) ((¬ (k = 0)) ∧ (qG .andNot .i64 k 254 = (fO k)) ∧ (¬ ((fO k) ≠ 0)) ∧ (¬ ((c : Int) < 1)) ∧ (¬ ((16 : Int) < (c : Int)))) [(1, rV 0 0), (25, bV false)] ⟨zo, rfl, zo, zo, zo⟩ ?_
     refine q8 ?_
     refine AW.seq ?_
     refine kO (qE 4 []) True [(1, rV 0 0), (27, kG (kI m) c), (28, uV c), (29, iV 0)] trivial ?_
     refine AW.block ?_
     refine kY 0 hcx (fun (x : {x : Nat // match x with | i => (i ≤ c) ∧ (∀ j, j < i → vmE m j = true)}) => match x with | ⟨i, _⟩ => (⟨[(1, rV 0 0), (27, kG (kI m) c), (28, uV c), (29, uV i)], [(0, some (59, (oT k r rn m c s sn)))], 1⟩ : ES)) (fun x => match x with | ⟨i, _⟩ => c - i) ⟨(0 : Nat), ⟨l0, (fun j hj => absurd hj (kd5 j))⟩⟩ [] (P := (kJ 0) ∧ (kM (kI m)) ∧ (kJ c) ∧ (kN (c : Int)) ∧ (kN 0) ∧ (kM [iD k, dl r rn, D.sl (kI m) c, dl s sn])) zk ⟨rfl, rfl, rfl, rfl, rfl, rfl⟩ ?_
     rintro ⟨i, hinv0⟩
     obtain ⟨hi, ha⟩ : (i ≤ c) ∧ (∀ j, j < i → vmE m j = true) := hinv0
     refine qR (l := [(1, rV 0 0), (27, kG (kI m) c), (28, uV c), (29, uV i)]) (g := [(0, some (59, (oT k r rn m c s sn)))]) (nx := 1) rfl rfl rfl ?_
     by_cases hx5 : (((i : Nat) : Int) < ((c : Nat) : Int))
     ·refine kK [.b true] (((i : Int) < (c : Int))) [(1, rV 0 0), (27, kG (kI m) c), (28, uV c), (29, uV i), (30, bV true)] [(0, some (59, (oT k r rn m c s sn)))] 1 zo ?_
      refine AW.seq ?_
      refine vB ?_
      refine AW.seq ?_
      refine AW.block ?_
      have hx6 : ((ka0 (ka1 m i ([] : List Int))) ≤ 1000000) := MsW.at (qD : MsW m) _
      refine kO [.no, .n i, .d (dl (ka1 m i ([] : List Int)) (ka0 (ka1 m i ([] : List Int)))), .no, .no] ((kN (i : Int)) ∧ (i < c) ∧ ((ka3 i (kI m))[0]? = some (dl (ka1 m i ([] : List Int)) (ka0 (ka1 m i ([] : List Int)))))) [(1, rV 0 0), (3, uV i), (4, sV .i64 (ka1 m i ([] : List Int)) (ka0 (ka1 m i ([] : List Int)))), (27, kG (kI m) c), (28, uV c), (29, uV i)] ⟨rfl, zo, (vQ _ _ k1j)⟩ ?_
      rcases ka9 (nF (ka1 m i ([] : List Int)) (ka0 (ka1 m i ([] : List Int)))) with hx7 | hx7
      ·rcases ka9 (gI (ka5 i m) (ka1 m i ([] : List Int))) with hx8 | hx8
       ·refine kO (.no :: .call [] (bV true) [] 0 [] none :: qE 5 [.sls 0 i i (kI (ka5 i m)), .no, .call [] (bV true) [] 0 [] none, .no]) ((Fun 91 [.c (.d (dl (ka1 m i ([] : List Int)) (ka0 (ka1 m i ([] : List Int)))))] (kH []) 0 (bV true) (kH []) 0) ∧ (kJ 0) ∧ (kN (i : Int)) ∧ ((0 : Nat) ≤ i) ∧ (i ≤ c) ∧ (i - 0 = i) ∧ (ka5 (i * 1) (ka3 (0 * 1) (kI m)) = (kI (ka5 i m))) ∧ (Fun 83 [.c (.d (D.sl (kI (ka5 i m)) i)), .c (.d (dl (ka1 m i ([] : List Int)) (ka0 (ka1 m i ([] : List Int)))))] (kH []) 0 (bV true) (kH []) 0)) [(1, rV 0 0), (27, kG (kI m) c), (28, uV c), (29, uV i), (44, bV true)] ⟨(by have h0 := (pU (ka1 m i ([] : List Int)) (ka0 (ka1 m i ([] : List Int))) rfl vC); rw [hx7] at h0; exact h0), rfl, rfl, zo, zo, zo, (j8 _ _), (by have h0 := (xO (ka5 i m) i (ka1 m i ([] : List Int)) (ka0 (ka1 m i ([] : List Int))) vC rfl zo vC (MsW.take (qD : MsW m) _)); rw [hx8] at h0; exact h0)⟩ ?_
        refine zt ?_
        refine kK [.no] True [(2, bV false)] [] 1 trivial ?_
        refine AW.ret ?_
        exact kA (.inr rfl) [] (P := ((d5 k r rn m s sn) = false)) zk (by first | exact mT zo (by assumption) (i6 zo zo (fun j hj => ha j zo)) (by assumption) | exact rR zo | exact fJ (jS zo) | exact fJ (jT (k := i) zo eT) | exact rQ (by assumption) | exact rP (by assumption))
       ·refine kO (.no :: .call [] (bV true) [] 0 [] none :: qE 5 [.sls 0 i i (kI (ka5 i m)), .no, .call [] (bV false) [] 0 [] none, .no]) ((Fun 91 [.c (.d (dl (ka1 m i ([] : List Int)) (ka0 (ka1 m i ([] : List Int)))))] (kH []) 0 (bV true) (kH []) 0) ∧ (kJ 0) ∧ (kN (i : Int)) ∧ ((0 : Nat) ≤ i) ∧ (i ≤ c) ∧ (i - 0 = i) ∧ (ka5 (i * 1) (ka3 (0 * 1) (kI m)) = (kI (ka5 i m))) ∧ (Fun 83 [.c (.d (D.sl (kI (ka5 i m)) i)), .c (.d (dl (ka1 m i ([] : List Int)) (ka0 (ka1 m i ([] : List Int)))))] (kH []) 0 (bV false) (kH []) 0)) [(1, rV 0 0), (27, kG (kI m) c), (28, uV c), (29, uV i), (44, bV false)] ⟨(by have h0 := (pU (ka1 m i ([] : List Int)) (ka0 (ka1 m i ([] : List Int))) rfl vC); rw [hx7] at h0; exact h0), rfl, rfl, zo, zo, zo, (j8 _ _), (by have h0 := (xO (ka5 i m) i (ka1 m i ([] : List Int)) (ka0 (ka1 m i ([] : List Int))) vC rfl zo vC (MsW.take (qD : MsW m) _)); rw [hx8] at h0; exact h0)⟩ ?_
        refine q8 ?_
        refine uT [.w, .no] ((-9223372036854775808) ≤ ((i : Int) + 1) ∧ ((i : Int) + 1) ≤ 9223372036854775807) [(1, rV 0 0), (27, kG (kI m) c), (28, uV c), (29, iV (↑i + 1))] ⟨by omega, by omega⟩ ?_
        exact kW ⟨((i + 1) : Nat), ⟨l0, (fun j hj => (Nat.lt_succ_iff_lt_or_eq.1 hj).elim (ha j) (fun e9 => by subst e9; exact k63 (by assumption) (by assumption)))⟩⟩ [] (P := (kJ 0) ∧ (kM (kI m)) ∧ (kJ c) ∧ (kN (c : Int)) ∧ (((((i + 1) : Nat) : Int) : Int) = ((i : Int) + 1)) ∧ (kM [iD k, dl r rn, D.sl (kI m) c, dl s sn])) zk ⟨rfl, rfl, rfl, rfl, (by first | rfl | omega | assumption | (simp; done) | (simp; omega)), rfl⟩ (show c - (i + 1) < c - i from (by first | omega | (show _ < _; simp; omega)))
      ·refine kO [.no, .call [] (bV false) [] 0 [] none, .no, .no, .no] (Fun 91 [.c (.d (dl (ka1 m i ([] : List Int)) (ka0 (ka1 m i ([] : List Int)))))] (kH []) 0 (bV false) (kH []) 0) [(1, rV 0 0), (27, kG (kI m) c), (28, uV c), (29, uV i), (44, bV true)] (by have h0 := (pU (ka1 m i ([] : List Int)) (ka0 (ka1 m i ([] : List Int))) rfl vC); rw [hx7] at h0; exact h0) ?_
       refine zt ?_
       refine kK [.no] True [(2, bV false)] [] 1 trivial ?_
       refine AW.ret ?_
       exact kA (.inr rfl) [] (P := ((d5 k r rn m s sn) = false)) zk (by first | exact mT zo (by assumption) (i6 zo zo (fun j hj => ha j zo)) (by assumption) | exact rR zo | exact fJ (jS zo) | exact fJ (jT (k := i) zo eT) | exact rQ (by assumption) | exact rP (by assumption))
     ·refine kK [.b false] (¬ ((i : Int) < (c : Int))) [(1, rV 0 0), (27, kG (kI m) c), (28, uV c), (29, uV i), (30, bV false)] [(0, some (59, (oT k r rn m c s sn)))] 1 zo ?_
      refine AW.seq ?_
      refine zf ?_
      refine AW.exit ?_
      rcases ka9 (d9 r rn 1000 768000) with hx9 | hx9
      ·rcases ka9 (d9 s sn 1 65536) with hx10 | hx10
       ·refine kK [.no, .no, .call [] (bV true) [] 0 [] none, .no, .no, .no, .call [] (bV true) [] 0 [] none, .no, .no] ((Fun 92 [.agg [.d (dl r rn)], iE 1000, iE 768000] (kH []) 0 (bV true) (kH []) 0) ∧ (Fun 92 [.agg [.d (dl s sn)], iE 1, iE 65536] (kH []) 0 (bV true) (kH []) 0)) [(2, bV true)] [] 1 ⟨(by have h0 := (gP r rn 1000 768000 zo zo); rw [hx9] at h0; exact h0), (by have h0 := (gP s sn 1 65536 zo zo); rw [hx10] at h0; exact h0)⟩ ?_
        refine AW.ret ?_
        exact kA (.inr rfl) [] (P := ((d5 k r rn m s sn) = true)) zk (by first | exact mT zo (by assumption) (i6 zo zo (fun j hj => ha j zo)) (by assumption) | exact rR zo | exact fJ (jS zo) | exact fJ (jT (k := i) zo eT) | exact rQ (by assumption) | exact rP (by assumption))
       ·refine kK [.no, .no, .call [] (bV true) [] 0 [] none, .no, .no, .no, .call [] (bV false) [] 0 [] none, .no, .no] ((Fun 92 [.agg [.d (dl r rn)], iE 1000, iE 768000] (kH []) 0 (bV true) (kH []) 0) ∧ (Fun 92 [.agg [.d (dl s sn)], iE 1, iE 65536] (kH []) 0 (bV false) (kH []) 0)) [(2, bV false)] [] 1 ⟨(by have h0 := (gP r rn 1000 768000 zo zo); rw [hx9] at h0; exact h0), (by have h0 := (gP s sn 1 65536 zo zo); rw [hx10] at h0; exact h0)⟩ ?_
        refine AW.ret ?_
        exact kA (.inr rfl) [] (P := ((d5 k r rn m s sn) = false)) zk (by first | exact mT zo (by assumption) (i6 zo zo (fun j hj => ha j zo)) (by assumption) | exact rR zo | exact fJ (jS zo) | exact fJ (jT (k := i) zo eT) | exact rQ (by assumption) | exact rP (by assumption))
      ·refine kK [.no, .no, .call [] (bV false) [] 0 [] none, .no, .no, .no] (Fun 92 [.agg [.d (dl r rn)], iE 1000, iE 768000] (kH []) 0 (bV false) (kH []) 0) [(2, bV false)] [] 1 (by have h0 := (gP r rn 1000 768000 zo zo); rw [hx9] at h0; exact h0) ?_
       refine AW.ret ?_
       exact kA (.inr rfl) [] (P := ((d5 k r rn m s sn) = false)) zk (by first | exact mT zo (by assumption) (i6 zo zo (fun j hj => ha j zo)) (by assumption) | exact rR zo | exact fJ (jS zo) | exact fJ (jT (k := i) zo eT) | exact rQ (by assumption) | exact rP (by assumption))
theorem eI (bs : List Bx) (n : Nat) (hn : ka0 bs = n) (h1 : n ≤ 1000000) (hW : BsW bs) : Fun 19 [.c (.d (D.sl (kE bs) n))] (kH []) 0 (uP (D.lit (.bool (cQ bs)))) (kH []) 0 := by
 refine Fun.mk (n := 18) Tryz.func19 rfl rfl (ka4 rfl) ?_
 intro cx hcx
 refine kK [.no] True [(0, kG (kE bs) n)] [] 0 trivial ?_
 refine AW.seq ?_
 refine kO [.no, .no, .no] True [(0, kG (kE bs) n), (5, kG (kE bs) n), (6, uV n), (7, iV 0)] trivial ?_
 refine AW.block ?_
 refine kY 0 hcx (fun (x : {x : Nat // match x with | i => (i ≤ n) ∧ (∀ j, j < i → vbE bs j = true)}) => match x with | ⟨i, _⟩ => (⟨[(0, kG (kE bs) n), (5, kG (kE bs) n), (6, uV n), (7, uV i)], [], 0⟩ : ES)) (fun x => match x with | ⟨i, _⟩ => n - i) ⟨(0 : Nat), ⟨l0, (fun j hj => absurd hj (kd5 j))⟩⟩ [] (P := (kM (kE bs)) ∧ (kJ n) ∧ (kM (kE bs)) ∧ (kJ n) ∧ (kN (n : Int)) ∧ (kN 0)) zk ⟨rfl, rfl, rfl, rfl, rfl, rfl⟩ ?_
 rintro ⟨i, hinv0⟩
 obtain ⟨hi, ha⟩ : (i ≤ n) ∧ (∀ j, j < i → vbE bs j = true) := hinv0
 refine qR (l := [(0, kG (kE bs) n), (5, kG (kE bs) n), (6, uV n), (7, uV i)]) (g := []) (nx := 0) rfl rfl rfl ?_
 by_cases hx1 : (((i : Nat) : Int) < ((n : Nat) : Int))
 ·refine kK [.b true] (((i : Int) < (n : Int))) [(0, kG (kE bs) n), (5, kG (kE bs) n), (6, uV n), (7, uV i), (8, bV true)] [] 0 zo ?_
  refine AW.seq ?_
  refine vB ?_
  refine AW.seq ?_
  refine AW.block ?_
  obtain ⟨hx2, hx3, hx4, hx5, hx6⟩ := BsW.at (qD : BsW bs) (i)
  refine kK [.n i, .ds [iD (kQ bs i), dl (kZ bs i) (kX bs i), D.sl (kI (kL bs i)) (ka0 (kL bs i)), dl (qA bs i) (k8 bs i)], .no, .no] ((kN (i : Int)) ∧ (i < n) ∧ (ka5 4 (ka3 (i * 4) (kE bs)) = [iD (kQ bs i), dl (kZ bs i) (kX bs i), D.sl (kI (kL bs i)) (ka0 (kL bs i)), dl (qA bs i) (k8 bs i)]) ∧ (([iD (kQ bs i), dl (kZ bs i) (kX bs i), D.sl (kI (kL bs i)) (ka0 (kL bs i)), dl (qA bs i) (k8 bs i)] : List D).length = 4)) [(0, kG (kE bs) n), (4, rV 0 0), (5, kG (kE bs) n), (6, uV n), (7, uV i)] [(0, some (59, .ds [iD (kQ bs i), dl (kZ bs i) (kX bs i), D.sl (kI (kL bs i)) (ka0 (kL bs i)), dl (qA bs i) (k8 bs i)]))] 1 ⟨rfl, zo, (yV k1j), rfl⟩ ?_
  rcases ka9 (d5 (kQ bs i) (kZ bs i) (kX bs i) (kL bs i) (qA bs i) (k8 bs i)) with hx7 | hx7
  ·refine kK [.no, .call [] (bV true) [] 0 [] none, .no] (Fun 47 [.agg [iC (kQ bs i), .d (dl (kZ bs i) (kX bs i)), .d (D.sl (kI (kL bs i)) (ka0 (kL bs i))), .d (dl (qA bs i) (k8 bs i))]] (kH []) 0 (bV true) (kH []) 0) [(0, kG (kE bs) n), (5, kG (kE bs) n), (6, uV n), (7, uV i), (13, bV false)] [] 1 (by have h0 := (u54 (kQ bs i) (kZ bs i) (kX bs i) (kL bs i) (ka0 (kL bs i)) (qA bs i) (k8 bs i) vC vC rfl vC vC vC (BsW.ms (qD : BsW bs) _)); rw [hx7] at h0; exact h0) ?_
   refine q8 ?_
   refine uT [.w, .no] ((-9223372036854775808) ≤ ((i : Int) + 1) ∧ ((i : Int) + 1) ≤ 9223372036854775807) [(0, kG (kE bs) n), (5, kG (kE bs) n), (6, uV n), (7, iV (↑i + 1))] ⟨by omega, by omega⟩ ?_
   exact kW ⟨((i + 1) : Nat), ⟨l0, (fun j hj => (Nat.lt_succ_iff_lt_or_eq.1 hj).elim (ha j) (fun e9 => by subst e9; assumption))⟩⟩ [] (P := (kM (kE bs)) ∧ (kJ n) ∧ (kM (kE bs)) ∧ (kJ n) ∧ (kN (n : Int)) ∧ (((((i + 1) : Nat) : Int) : Int) = ((i : Int) + 1))) zk ⟨rfl, rfl, rfl, rfl, rfl, (by first | rfl | omega | assumption | (simp; done) | (simp; omega))⟩ (show n - (i + 1) < n - i from (by first | omega | (show _ < _; simp; omega)))
  ·refine kK [.no, .call [] (bV false) [] 0 [] none, .no] (Fun 47 [.agg [iC (kQ bs i), .d (dl (kZ bs i) (kX bs i)), .d (D.sl (kI (kL bs i)) (ka0 (kL bs i))), .d (dl (qA bs i) (k8 bs i))]] (kH []) 0 (bV false) (kH []) 0) [(0, kG (kE bs) n), (5, kG (kE bs) n), (6, uV n), (7, uV i), (13, bV true)] [] 1 (by have h0 := (u54 (kQ bs i) (kZ bs i) (kX bs i) (kL bs i) (ka0 (kL bs i)) (qA bs i) (k8 bs i) vC vC rfl vC vC vC (BsW.ms (qD : BsW bs) _)); rw [hx7] at h0; exact h0) ?_
   refine zt ?_
   refine kO [.no] True [(2, bV false)] trivial ?_
   refine AW.ret ?_
   exact kA (.inr rfl) [] (P := ((cQ bs) = false)) zk (by first | exact k64 zo (fun j hj => ha j zo) | exact k4s zo | exact u1j (k := i) zo (by assumption))
 ·refine kK [.b false] (¬ ((i : Int) < (n : Int))) [(0, kG (kE bs) n), (5, kG (kE bs) n), (6, uV n), (7, uV i), (8, bV false)] [] 0 zo ?_
  refine AW.seq ?_
  refine zf ?_
  refine AW.exit ?_
  by_cases hx8 : (((n : Nat) : Int) ≤ 64)
  ·refine kK [.no, .no, .b true, .no] (((n : Int) ≤ 64)) [(2, bV true)] [] 0 zo ?_
   refine AW.ret ?_
   exact kA (.inr rfl) [] (P := ((cQ bs) = true)) zk (by first | exact k64 zo (fun j hj => ha j zo) | exact k4s zo | exact u1j (k := i) zo (by assumption))
  ·refine kK [.no, .no, .b false, .no] (¬ ((n : Int) ≤ 64)) [(2, bV false)] [] 0 zo ?_
   refine AW.ret ?_
   exact kA (.inr rfl) [] (P := ((cQ bs) = false)) zk (by first | exact k64 zo (fun j hj => ha j zo) | exact k4s zo | exact u1j (k := i) zo (by assumption))
end Go.Proofs.YtcfmjpnffembpaaGreat
