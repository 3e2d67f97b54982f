/- Valid lists of boxes. No statement is proved here. -/
import Derived.Test.YtcfmjpnffembpaaGreatZL10A
import Derived.Test.YtcfmjpnffembpaaGreatZL09C
namespace Go.Proofs.YtcfmjpnffembpaaGreat
open Go.ChangeShapes Go.WideShapes Go.ChangeAt Go.RowKit
open Bool renaming and_false → kc7, eq_false_or_eq_true → ka6, false_and → kg9
open List renaming drop → ka3, drop_drop → kj4, getD → ka1, getD_eq_getElem?_getD → ka8, getElem?_eq_getElem → ka7, length → ka0, length_append → ka9, length_cons → kb0, length_drop → kb5, length_nil → kb3, length_replicate → kb4, length_set → kc1, length_take → kb2, mem_of_getElem? → kd7, mem_of_mem_take → kg6, take → ka5
open Nat renaming le_of_ble_eq_true → ka4, not_lt_zero → kd1, zero_le → kd8
set_option linter.unusedVariables false
set_option linter.unusedSimpArgs false
/-! chapter 10: maps and boxes as data -/
set_option maxHeartbeats 4000000
set_option maxRecDepth 100000
def kL (xs : List (List Int)) : List D := xs.map fun l => D.sl (dI .i64 l) l.length
theorem qH (xs : List (List Int)) : ka0 (kL xs) = ka0 xs := by unfold kL; simp
theorem iJ (xs : List (List Int)) (l : List Int) (n : Nat) (h : l.length = n) : kL xs ++ [D.sl (dI .i64 l) n] = kL (xs ++ [l]) := by subst h; unfold kL; simp
theorem yE (xs : List (List Int)) (i : Nat) (h : i < xs.length) : (ka3 i (kL xs))[0]? = some (D.sl (dI .i64 (ka1 xs i [])) (ka1 xs i []).length) := by
 unfold kL
 rw [List.getElem?_drop, Nat.add_zero, List.getElem?_map, ka7 h, ka8, ka7 h]; rfl
theorem iI (xs : List (List Int)) (n : Nat) : ka5 (n * 1) (ka3 (0 * 1) (kL xs)) = kL (ka5 n xs) := by unfold kL; simp [List.map_take]
def MsW (xs : List (List Int)) : Prop := ∀ l ∈ xs, ka0 l ≤ 1000000
theorem MsW.at {xs : List (List Int)} (h : MsW xs) (i : Nat) : ka0 (ka1 xs i []) ≤ 1000000 := by
 rw [ka8]
 cases e : xs[i]? with
 | none => exact kd8 _
 | some l => exact h l (kd7 e)
theorem MsW.nil : MsW [] := fun l h => by cases h
theorem MsW.snoc {xs : List (List Int)} {l : List Int} (h : MsW xs) (hl : ka0 l ≤ 1000000) : MsW (xs ++ [l]) := fun m hm => (List.mem_append.1 hm).elim (h m) fun hm => by
 rw [List.mem_singleton.1 hm]; exact hl
theorem MsW.take {xs : List (List Int)} (h : MsW xs) (n : Nat) : MsW (ka5 n xs) := fun m hm => h m (kg6 hm)
def d9 (xs : List (List Int)) (m : List Int) : Bool := decide (m ∈ xs)
theorem u5k {xs : List (List Int)} {m : List Int} {k : Nat} (hk : k < xs.length) (h : vO (ka1 xs k []) m = true) : d9 xs m = true := by
 have e : ka1 xs k [] = xs[k] := by rw [ka8, ka7 hk]; rfl
 have h1 := k3e h
 rw [e] at h1
 exact decide_eq_true (h1 ▸ List.getElem_mem hk)
theorem u5l {xs : List (List Int)} {m : List Int} (h : ∀ j, j < xs.length → vO (ka1 xs j []) m = false) : d9 xs m = false := by
 refine decide_eq_false fun hm => ?_
 obtain ⟨j, hj, e⟩ := List.mem_iff_getElem.1 hm
 have h1 := k3c (h j hj)
 have e1 : ka1 xs j [] = xs[j] := by rw [ka8, ka7 hj]; rfl
 exact h1 (by rw [e1, e])
def xR (xs : List (List Int)) (i : Nat) : Bool := lJ (ka1 xs i []) (ka1 xs i []).length && !(d9 (ka5 i xs) (ka1 xs i []))
def nQ (xs : List (List Int)) : Bool := decide (1 ≤ xs.length ∧ xs.length ≤ 16 ∧ ∀ i, i < xs.length → xR xs i = true)
theorem u1b {xs : List (List Int)} (h1 : 1 ≤ xs.length) (h2 : xs.length ≤ 16) (h : ∀ i, i < xs.length → xR xs i = true) : nQ xs = true := decide_eq_true ⟨h1, h2, h⟩
theorem k7k {xs : List (List Int)} {k : Nat} (hk : k < xs.length) (h : xR xs k = false) : nQ xs = false := decide_eq_false fun h1 => by
 have := h1.2.2 k hk; rw [h] at this; cases this
theorem k7j {xs : List (List Int)} (h : xs.length < 1 ∨ 16 < xs.length) : nQ xs = false := decide_eq_false fun h1 => by omega
theorem k31 {xs : List (List Int)} {i : Nat} (h1 : lJ (ka1 xs i []) (ka1 xs i []).length = true) (h2 : d9 (ka5 i xs) (ka1 xs i []) = false) : xR xs i = true := by unfold xR; rw [h1, h2]; rfl
theorem k9s {xs : List (List Int)} {i : Nat} (h1 : lJ (ka1 xs i []) (ka1 xs i []).length = false) : xR xs i = false := by unfold xR; rw [h1]; rfl
theorem k9r {xs : List (List Int)} {i : Nat} (h2 : d9 (ka5 i xs) (ka1 xs i []) = true) : xR xs i = false := by unfold xR; rw [h2]; cases lJ (ka1 xs i []) (ka1 xs i []).length <;> rfl
def dR (l : List Int) (n : Nat) (lo hi : Int) : Bool := eI l n && decide (1 ≤ n ∧ lo ≤ ka1 l 0 0 ∧ ka1 l ((n - 1) * 2 + 1) 0 ≤ hi)
theorem u19 {l : List Int} {n : Nat} {lo hi : Int} (h : eI l n = true) (h2 : 1 ≤ n ∧ lo ≤ ka1 l 0 0 ∧ ka1 l ((n - 1) * 2 + 1) 0 ≤ hi) : dR l n lo hi = true := by unfold dR; rw [h, decide_eq_true h2]; rfl
theorem u3i {l : List Int} {n : Nat} {lo hi : Int} (h : eI l n = false) : dR l n lo hi = false := by unfold dR; rw [h]; rfl
theorem k1q {l : List Int} {n : Nat} {lo hi : Int} (h2 : ¬ (1 ≤ n ∧ lo ≤ ka1 l 0 0 ∧ ka1 l ((n - 1) * 2 + 1) 0 ≤ hi)) : dR l n lo hi = false := by unfold dR; rw [decide_eq_false h2]; cases eI l n <;> rfl
structure Bx where
 k : Int
 r : List Int
 rn : Nat
 m : List (List Int)
 s : List Int
 sn : Nat
def bx0 : Bx := ⟨0, [], 0, [], [], 0⟩
def bxR (b : Bx) : List D := [D.lit (.int .i64 b.k), D.sl (dI .i64 b.r) b.rn, D.sl (kL b.m) b.m.length, D.sl (dI .i64 b.s) b.sn]
def kP : List Bx → List D
 | [] => []
 | b :: r => bxR b ++ kP r
theorem qE : ∀ xs : List Bx, ka0 (kP xs) = ka0 xs * 4
 | [] => rfl
 | b :: r => by show ka0 (bxR b ++ kP r) = (ka0 r + 1) * 4; rw [ka9, qE r]; show 4 + _ = _; omega
theorem iT : ∀ a b : List Bx, kP (a ++ b) = kP a ++ kP b
 | [], _ => rfl
 | l :: r, b => by show bxR l ++ kP (r ++ b) = bxR l ++ kP r ++ kP b; rw [iT r b, List.append_assoc]
theorem iS : ∀ (i : Nat) (xs : List Bx), ka3 (i * 4) (kP xs) = kP (ka3 i xs)
 | 0, _ => rfl
 | i + 1, [] => by simp [kP]
 | i + 1, l :: r => by
  show ka3 ((i + 1) * 4) (bxR l ++ kP r) = kP (ka3 i r)
  rw [show (i + 1) * 4 = 4 + i * 4 by omega, ← kj4, ← iS i r]; rfl
theorem nA : ∀ (i : Nat) (xs : List Bx), ka5 (i * 4) (kP xs) = kP (ka5 i xs)
 | 0, _ => rfl
 | i + 1, [] => by simp [kP]
 | i + 1, l :: r => by
  show ka5 ((i + 1) * 4) (bxR l ++ kP r) = bxR l ++ kP (ka5 i r)
  rw [← nA i r, show (i + 1) * 4 = ka0 (bxR l) + i * 4 by show _ = 4 + _; omega, List.take_length_add_append]
def gL (xs : List Bx) (i : Nat) : Bx := ka1 xs i bx0
def k9 (xs : List Bx) (i : Nat) : Int := (gL xs i).k
def qF (xs : List Bx) (i : Nat) : List Int := (gL xs i).r
def qB (xs : List Bx) (i : Nat) : Nat := (gL xs i).rn
def kY (xs : List Bx) (i : Nat) : List (List Int) := (gL xs i).m
def qG (xs : List Bx) (i : Nat) : List Int := (gL xs i).s
def qC (xs : List Bx) (i : Nat) : Nat := (gL xs i).sn
theorem k98 {xs : List Bx} {i : Nat} (h : i < ka0 xs) : kP (ka3 i xs) = bxR (gL xs i) ++ kP (ka3 (i + 1) xs) := by
 have e : gL xs i = xs[i] := by unfold gL; rw [ka8, ka7 h]; rfl
 rw [List.drop_eq_getElem_cons h, e]; rfl
theorem yF {xs : List Bx} {i : Nat} (h : i < ka0 xs) : ka5 4 (ka3 (i * 4) (kP xs)) = [D.lit (.int .i64 (k9 xs i)), D.sl (dI .i64 (qF xs i)) (qB xs i), D.sl (kL (kY xs i)) (ka0 (kY xs i)), D.sl (dI .i64 (qG xs i)) (qC xs i)] := by
 rw [iS, k98 h]; rfl
def BxW (b : Bx) : Prop := ka0 b.r = b.rn * 2 ∧ ka0 b.s = b.sn * 2 ∧ b.rn ≤ 1000000 ∧ b.sn ≤ 1000000 ∧ ka0 b.m ≤ 1000000 ∧ MsW b.m
def BsW (xs : List Bx) : Prop := ∀ b ∈ xs, BxW b
theorem u6a : BxW bx0 := ⟨rfl, rfl, kd8 _, kd8 _, kd8 _, MsW.nil⟩
theorem BsW.get {xs : List Bx} (h : BsW xs) (i : Nat) : BxW (gL xs i) := by
 unfold gL
 rw [ka8]
 cases e : xs[i]? with
 | none => exact u6a
 | some l => exact h l (kd7 e)
theorem BsW.at {xs : List Bx} (h : BsW xs) (i : Nat) : ka0 (qF xs i) = qB xs i * 2 ∧ ka0 (qG xs i) = qC xs i * 2 ∧ qB xs i ≤ 1000000 ∧ qC xs i ≤ 1000000 ∧ ka0 (kY xs i) ≤ 1000000 := by
 have h1 := h.get i
 exact ⟨h1.1, h1.2.1, h1.2.2.1, h1.2.2.2.1, h1.2.2.2.2.1⟩
theorem BsW.ms {xs : List Bx} (h : BsW xs) (i : Nat) : MsW (kY xs i) := (h.get i).2.2.2.2.2
theorem BsW.take {xs : List Bx} (h : BsW xs) (n : Nat) : BsW (ka5 n xs) := fun m hm => h m (kg6 hm)
theorem BsW.drop {xs : List Bx} (h : BsW xs) (n : Nat) : BsW (ka3 n xs) := fun m hm => h m (List.mem_of_mem_drop hm)
theorem BsW.app {xs ys : List Bx} (h : BsW xs) (h2 : BsW ys) : BsW (xs ++ ys) := fun m hm => (List.mem_append.1 hm).elim (h m) (h2 m)
theorem BsW.nil : BsW [] := fun l h => by cases h
theorem BsW.one {b : Bx} (h : BxW b) : BsW [b] := fun m hm => by rw [List.mem_singleton.1 hm]; exact h
def eH (k : Int) : Int := qI .andNot .i64 k 254
def cG (k : Int) : Int := qI .and .i64 k 1
def xC (k : Int) (q : Nat) : Bool := decide (1 ≤ q ∧ q ≤ 7 ∧ cG (k / ((2 ^ q : Nat) : Int)) = 1)
def dK (k : Int) (r : List Int) (rn : Nat) (m : List (List Int)) (s : List Int) (sn : Nat) : Bool := decide (¬ k = 0 ∧ eH k = 0) && (dR r rn 1000 768000 && (nQ m && dR s sn 1 65536))
def vbE (xs : List Bx) (i : Nat) : Bool := dK (k9 xs i) (qF xs i) (qB xs i) (kY xs i) (qG xs i) (qC xs i)
def aJ (xs : List Bx) : Bool := decide (xs.length ≤ 64 ∧ ∀ i, i < xs.length → vbE xs i = true)
theorem u1d {xs : List Bx} (h2 : xs.length ≤ 64) (h : ∀ i, i < xs.length → vbE xs i = true) : aJ xs = true := decide_eq_true ⟨h2, h⟩
theorem u3m {xs : List Bx} {k : Nat} (hk : k < xs.length) (h : vbE xs k = false) : aJ xs = false := decide_eq_false fun h1 => by
 have := h1.2 k hk; rw [h] at this; cases this
theorem u3l {xs : List Bx} (h : 64 < xs.length) : aJ xs = false := decide_eq_false fun h1 => by omega
theorem u33 {k : Int} {r : List Int} {rn : Nat} {m : List (List Int)} {s : List Int} {sn : Nat} (h1 : ¬ k = 0 ∧ eH k = 0) (h2 : dR r rn 1000 768000 = true) (h3 : nQ m = true) (h4 : dR s sn 1 65536 = true) : dK k r rn m s sn = true := by
 unfold dK; rw [h2, h3, h4, decide_eq_true h1]; rfl
theorem k97 {k : Int} {r : List Int} {rn : Nat} {m : List (List Int)} {s : List Int} {sn : Nat} (h1 : ¬ (¬ k = 0 ∧ eH k = 0)) : dK k r rn m s sn = false := by
 unfold dK; rw [decide_eq_false h1]; rfl
theorem u68 {k : Int} {r : List Int} {rn : Nat} {m : List (List Int)} {s : List Int} {sn : Nat} (h2 : dR r rn 1000 768000 = false) : dK k r rn m s sn = false := by
 unfold dK; rw [h2, kg9, kc7]
theorem k6k {k : Int} {r : List Int} {rn : Nat} {m : List (List Int)} {s : List Int} {sn : Nat} (h3 : nQ m = false) : dK k r rn m s sn = false := by
 unfold dK; rw [h3, kg9, kc7, kc7]
theorem u67 {k : Int} {r : List Int} {rn : Nat} {m : List (List Int)} {s : List Int} {sn : Nat} (h4 : dR s sn 1 65536 = false) : dK k r rn m s sn = false := by
 unfold dK; rw [h4, kc7, kc7, kc7]
def kH (xs : List Bx) : List Bx := if aJ xs = true then xs else []
theorem k19 {xs : List Bx} (h : aJ xs = true) : kH xs = xs := if_pos h
theorem k6l {xs : List Bx} (h : aJ xs = false) : kH xs = [] := if_neg (by rw [h]; decide)
theorem aB {xs : List Bx} (h : BsW xs) : BsW (kH xs) := by unfold kH; split; exact h; exact BsW.nil
theorem c9 (xs : List Bx) : ka0 (kH xs) ≤ ka0 xs := by unfold kH; split; exact Nat.le_refl _; exact kd8 _
theorem eF (ms : List (List Int)) (c : Nat) (m : List Int) (n : Nat) (hc : ka0 ms = c) (hn : ka0 m = n) (h1 : c ≤ 1000000) (h2 : n ≤ 1000000) (hW : MsW ms) : Fun 83 [.c (.d (D.sl (kL ms) c)), .c (.d (D.sl (dI .i64 m) n))] (kE []) 0 (qS (D.lit (.bool (d9 ms m)))) (kE []) 0 := by
 refine Fun.mk (n := 17) Tryz.func83 rfl rfl (ka4 rfl) ?_
 intro cx hcx
 refine kI [.no] True [(0, qJ (kL ms) c), (1, sV .i64 m n)] [] 0 trivial ?_
 refine AW.seq ?_
 refine kN [.no, .no, .no] True [(1, sV .i64 m n), (7, qJ (kL ms) c), (8, uV c), (9, iV 0)] trivial ?_
 refine AW.block ?_
 refine kU 0 hcx (fun (x : {x : Nat // match x with | k => (k ≤ c) ∧ (∀ j, j < k → vO (ka1 ms j []) m = false)}) => match x with | ⟨k, _⟩ => (⟨[(1, sV .i64 m n), (7, qJ (kL ms) c), (8, uV c), (9, uV k)], [], 0⟩ : ES)) (fun x => match x with | ⟨k, _⟩ => c - k) ⟨(0 : Nat), ⟨zo, (fun j hj => absurd hj (kd1 j))⟩⟩ [] (P := (kJ (dI .i64 m)) ∧ (kG n) ∧ (kJ (kL ms)) ∧ (kG c) ∧ (kM (c : Int)) ∧ (kM 0)) zk ⟨rfl, rfl, rfl, rfl, rfl, rfl⟩ ?_
 rintro ⟨k, hinv0⟩
 obtain ⟨hk, ha⟩ : (k ≤ c) ∧ (∀ j, j < k → vO (ka1 ms j []) m = false) := hinv0
 refine qN (l := [(1, sV .i64 m n), (7, qJ (kL ms) c), (8, uV c), (9, uV k)]) (g := []) (nx := 0) rfl rfl rfl ?_
 by_cases hx1 : (((k : Nat) : Int) < ((c : Nat) : Int))
 ·refine kI [.b true] (((k : Int) < (c : Int))) [(1, sV .i64 m n), (7, qJ (kL ms) c), (8, uV c), (9, uV k), (10, bV true)] [] 0 zo ?_
  refine AW.seq ?_
  refine yW ?_
  refine AW.seq ?_
  refine AW.block ?_
  have hx2 : ((ka0 (ka1 ms k ([] : List Int))) ≤ 1000000) := MsW.at (kZ : MsW ms) _
  refine kN [.n k, .d (dl (ka1 ms k ([] : List Int)) (ka0 (ka1 ms k ([] : List Int)))), .no] ((kM (k : Int)) ∧ (k < c) ∧ ((ka3 k (kL ms))[0]? = some (dl (ka1 ms k ([] : List Int)) (ka0 (ka1 ms k ([] : List Int)))))) [(1, sV .i64 m n), (6, sV .i64 (ka1 ms k ([] : List Int)) (ka0 (ka1 ms k ([] : List Int)))), (7, qJ (kL ms) c), (8, uV c), (9, uV k)] ⟨rfl, zo, (yE _ _ zo)⟩ ?_
  rcases ka6 (vO (ka1 ms k ([] : List Int)) m) with hx3 | hx3
  ·refine kN [.no, .no, .call [] (bV true) [] 0 [] none] (Fun 94 [.c (.d (dl (ka1 ms k ([] : List Int)) (ka0 (ka1 ms k ([] : List Int))))), .c (.d (dl m n))] (kE []) 0 (bV true) (kE []) 0) [(1, sV .i64 m n), (7, qJ (kL ms) c), (8, uV c), (9, uV k), (15, bV true)] (by have h0 := (aL (ka1 ms k ([] : List Int)) m (ka0 (ka1 ms k ([] : List Int))) n rfl zo zo zo); rw [hx3] at h0; exact h0) ?_
   refine zt ?_
   refine kN [.no] True [(4, bV true)] trivial ?_
   refine AW.ret ?_
   exact kC (.inr rfl) [] (P := ((d9 ms m) = true)) zk (by exact u5k (k := k) zo (by assumption))
  ·refine kN [.no, .no, .call [] (bV false) [] 0 [] none] (Fun 94 [.c (.d (dl (ka1 ms k ([] : List Int)) (ka0 (ka1 ms k ([] : List Int))))), .c (.d (dl m n))] (kE []) 0 (bV false) (kE []) 0) [(1, sV .i64 m n), (7, qJ (kL ms) c), (8, uV c), (9, uV k), (15, bV false)] (by have h0 := (aL (ka1 ms k ([] : List Int)) m (ka0 (ka1 ms k ([] : List Int))) n rfl zo zo zo); rw [hx3] at h0; exact h0) ?_
   refine q8 ?_
   refine uJ [.w, .no] (uZ ((k : Int) + 1)) [(1, sV .i64 m n), (7, qJ (kL ms) c), (8, uV c), (9, iV (↑k + 1))] ⟨by omega, by omega⟩ ?_
   exact kX ⟨((k + 1) : Nat), ⟨zo, (fun j hj => (Nat.lt_succ_iff_lt_or_eq.1 hj).elim (ha j) (fun e9 => by subst e9; assumption))⟩⟩ [] (P := (kJ (dI .i64 m)) ∧ (kG n) ∧ (kJ (kL ms)) ∧ (kG c) ∧ (kM (c : Int)) ∧ (vX k)) zk ⟨rfl, rfl, rfl, rfl, rfl, (by rfl)⟩ (show c - (k + 1) < c - k from zo)
 ·refine kI [.b false] (¬ ((k : Int) < (c : Int))) [(1, sV .i64 m n), (7, qJ (kL ms) c), (8, uV c), (9, uV k), (10, bV false)] [] 0 zo ?_
  refine AW.seq ?_
  refine zf ?_
  refine AW.exit ?_
  refine kI [.no] True [(4, bV false)] [] 0 trivial ?_
  refine AW.ret ?_
  exact kC (.inr rfl) [] (P := ((d9 ms m) = false)) zk (by exact u5l (fun j hj => ha j zo))
theorem cV {p : Prop} (h : p := by (rw [kj4]; exact uI _ _ _ (by omega))) : p := h
theorem fH (l : List Int) (n : Nat) (lo hi : Int) (hl : ka0 l = n * 2) (hb : n ≤ 1000000) : Fun 92 [.agg [.d (D.sl (dI .i64 l) n)], iE lo, iE hi] (kE []) 0 (qS (D.lit (.bool (dR l n lo hi)))) (kE []) 0 := by
 refine Fun.mk (n := 37) Tryz.func92 rfl rfl (ka4 rfl) ?_
 intro cx hcx
 refine kI [.no, .no] True [(1, iV lo), (2, iV hi), (3, rV 0 0)] [(0, some (56, .ds [dl l n]))] 1 trivial ?_
 refine kN (kT 4 []) True [(1, iV lo), (2, iV hi), (3, rV 0 0), (7, uV n)] trivial ?_
 rcases ka6 (eI l n) with hx1 | hx1
 ·by_cases hx2 : ((0 : Int) < ((n : Nat) : Int))
  ·by_cases hx3 : (lo ≤ (ka1 l 0 0))
   ·by_cases hx4 : ((ka1 l (((n - 1) * 2) + 1) 0) ≤ hi)
    ·refine kI (.no :: .call [] (bV true) [] 0 [] none :: .no :: .no :: .b true :: kT 4 (.n 0 :: .no :: .d (D.lit (.int .i64 (ka1 l 0 0))) :: .no :: .b true :: kT 5 [.w, .n (n - 1), .no, .d (D.lit (.int .i64 (ka1 l (((n - 1) * 2) + 1) 0))), .no, .b true, .no, .no])) ((Fun 134 [.agg [.d (dl l n)]] (kE []) 0 (bV true) (kE []) 0) ∧ (((0 : Int) < (n : Int))) ∧ (kM 0) ∧ ((0 : Nat) < n) ∧ ((ka3 0 (ka3 0 (dI .i64 l)))[0]? = some (D.lit (.int .i64 (ka1 l 0 0)))) ∧ ((lo ≤ (ka1 l 0 0))) ∧ (uZ ((n : Int) - 1)) ∧ ((((n : Int) - 1) : Int) = (((n - 1) : Nat) : Int)) ∧ ((n - 1) < n) ∧ ((ka3 1 (ka3 ((n - 1) * 2) (dI .i64 l)))[0]? = some (D.lit (.int .i64 (ka1 l (((n - 1) * 2) + 1) 0)))) ∧ (((ka1 l (((n - 1) * 2) + 1) 0) ≤ hi))) [(6, bV true)] [] 1 ⟨(by have h0 := (cL l n zo zo); rw [hx1] at h0; exact h0), zo, rfl, zo, cV, zo, ⟨by omega, by omega⟩, zo, zo, cV, zo⟩ ?_
     refine AW.ret ?_
     exact kC (.inr rfl) [] (P := ((dR l n lo hi) = true)) zk (by exact u19 (by assumption) zo)
    ·refine kI (.no :: .call [] (bV true) [] 0 [] none :: .no :: .no :: .b true :: kT 4 (.n 0 :: .no :: .d (D.lit (.int .i64 (ka1 l 0 0))) :: .no :: .b true :: kT 5 [.w, .n (n - 1), .no, .d (D.lit (.int .i64 (ka1 l (((n - 1) * 2) + 1) 0))), .no, .b false, .no, .no])) ((Fun 134 [.agg [.d (dl l n)]] (kE []) 0 (bV true) (kE []) 0) ∧ (((0 : Int) < (n : Int))) ∧ (kM 0) ∧ ((0 : Nat) < n) ∧ ((ka3 0 (ka3 0 (dI .i64 l)))[0]? = some (D.lit (.int .i64 (ka1 l 0 0)))) ∧ ((lo ≤ (ka1 l 0 0))) ∧ (uZ ((n : Int) - 1)) ∧ ((((n : Int) - 1) : Int) = (((n - 1) : Nat) : Int)) ∧ ((n - 1) < n) ∧ ((ka3 1 (ka3 ((n - 1) * 2) (dI .i64 l)))[0]? = some (D.lit (.int .i64 (ka1 l (((n - 1) * 2) + 1) 0)))) ∧ (¬ ((ka1 l (((n - 1) * 2) + 1) 0) ≤ hi))) [(6, bV false)] [] 1 ⟨(by have h0 := (cL l n zo zo); rw [hx1] at h0; exact h0), zo, rfl, zo, cV, zo, ⟨by omega, by omega⟩, zo, zo, cV, zo⟩ ?_
     refine AW.ret ?_
     exact kC (.inr rfl) [] (P := ((dR l n lo hi) = false)) zk (by exact k1q zo)
   ·refine kI (.no :: .call [] (bV true) [] 0 [] none :: .no :: .no :: .b true :: kT 4 (.n 0 :: .no :: .d (D.lit (.int .i64 (ka1 l 0 0))) :: .no :: .b false :: kT 4 [])) ((Fun 134 [.agg [.d (dl l n)]] (kE []) 0 (bV true) (kE []) 0) ∧ (((0 : Int) < (n : Int))) ∧ (kM 0) ∧ ((0 : Nat) < n) ∧ ((ka3 0 (ka3 0 (dI .i64 l)))[0]? = some (D.lit (.int .i64 (ka1 l 0 0)))) ∧ (¬ (lo ≤ (ka1 l 0 0)))) [(6, bV false)] [] 1 ⟨(by have h0 := (cL l n zo zo); rw [hx1] at h0; exact h0), zo, rfl, zo, cV, zo⟩ ?_
    refine AW.ret ?_
    exact kC (.inr rfl) [] (P := ((dR l n lo hi) = false)) zk (by exact k1q zo)
  ·refine kI (.no :: .call [] (bV true) [] 0 [] none :: .no :: .no :: .b false :: kT 6 []) ((Fun 134 [.agg [.d (dl l n)]] (kE []) 0 (bV true) (kE []) 0) ∧ (¬ ((0 : Int) < (n : Int)))) [(6, bV false)] [] 1 ⟨(by have h0 := (cL l n zo zo); rw [hx1] at h0; exact h0), zo⟩ ?_
   refine AW.ret ?_
   exact kC (.inr rfl) [] (P := ((dR l n lo hi) = false)) zk (by exact k1q zo)
 ·refine kI (.no :: .call [] (bV false) [] 0 [] none :: kT 7 []) (Fun 134 [.agg [.d (dl l n)]] (kE []) 0 (bV false) (kE []) 0) [(6, bV false)] [] 1 (by have h0 := (cL l n zo zo); rw [hx1] at h0; exact h0) ?_
  refine AW.ret ?_
  exact kC (.inr rfl) [] (P := ((dR l n lo hi) = false)) zk (by exact u3i (by assumption))
theorem jY (l : List Int) (n : Nat) (lo hi : Int) (hl : ka0 l = n * 2) (hb : n ≤ 1000000) : Fun 87 [.agg [.d (D.sl (dI .i64 l) n)], iE lo, iE hi] (kE []) 0 (qS (D.lit (.bool (dR l n lo hi)))) (kE []) 0 := by
 refine Fun.mk (n := 37) Tryz.func87 rfl rfl (ka4 rfl) ?_
 intro cx hcx
 refine kI [.no, .no] True [(1, iV lo), (2, iV hi), (3, rV 0 0)] [(0, some (56, .ds [dl l n]))] 1 trivial ?_
 refine kN [.no, .no, .no, .w, .no] (uZ ((n : Int) - 1)) [(1, iV lo), (2, iV hi), (3, rV 0 0), (7, iV (↑n - 1))] ⟨by omega, by omega⟩ ?_
 by_cases hx1 : ((0 : Int) ≤ (((n : Nat) : Int) - 1))
 ·rcases ka6 (eI l n) with hx2 | hx2
  ·by_cases hx3 : (lo ≤ (ka1 l 0 0))
   ·by_cases hx4 : ((ka1 l (((n - 1) * 2) + 1) 0) ≤ hi)
    ·refine kI (.no :: .b true :: .no :: .no :: .call [] (bV true) [] 0 [] none :: kT 4 (.n 0 :: .no :: .d (D.lit (.int .i64 (ka1 l 0 0))) :: .no :: .b true :: kT 5 [.n (n - 1), .no, .d (D.lit (.int .i64 (ka1 l (((n - 1) * 2) + 1) 0))), .no, .b true, .no, .no])) ((((0 : Int) ≤ ((n : Int) - 1))) ∧ (Fun 130 [.agg [.d (dl l n)]] (kE []) 0 (bV true) (kE []) 0) ∧ (kM 0) ∧ ((0 : Nat) < n) ∧ ((ka3 0 (ka3 0 (dI .i64 l)))[0]? = some (D.lit (.int .i64 (ka1 l 0 0)))) ∧ ((lo ≤ (ka1 l 0 0))) ∧ ((((n : Int) - 1) : Int) = (((n - 1) : Nat) : Int)) ∧ ((n - 1) < n) ∧ ((ka3 1 (ka3 ((n - 1) * 2) (dI .i64 l)))[0]? = some (D.lit (.int .i64 (ka1 l (((n - 1) * 2) + 1) 0)))) ∧ (((ka1 l (((n - 1) * 2) + 1) 0) ≤ hi))) [(6, bV true)] [] 1 ⟨zo, (by have h0 := (f6 l n zo zo); rw [hx2] at h0; exact h0), rfl, zo, cV, zo, zo, zo, cV, zo⟩ ?_
     refine AW.ret ?_
     exact kC (.inr rfl) [] (P := ((dR l n lo hi) = true)) zk (by exact u19 (by assumption) zo)
    ·refine kI (.no :: .b true :: .no :: .no :: .call [] (bV true) [] 0 [] none :: kT 4 (.n 0 :: .no :: .d (D.lit (.int .i64 (ka1 l 0 0))) :: .no :: .b true :: kT 5 [.n (n - 1), .no, .d (D.lit (.int .i64 (ka1 l (((n - 1) * 2) + 1) 0))), .no, .b false, .no, .no])) ((((0 : Int) ≤ ((n : Int) - 1))) ∧ (Fun 130 [.agg [.d (dl l n)]] (kE []) 0 (bV true) (kE []) 0) ∧ (kM 0) ∧ ((0 : Nat) < n) ∧ ((ka3 0 (ka3 0 (dI .i64 l)))[0]? = some (D.lit (.int .i64 (ka1 l 0 0)))) ∧ ((lo ≤ (ka1 l 0 0))) ∧ ((((n : Int) - 1) : Int) = (((n - 1) : Nat) : Int)) ∧ ((n - 1) < n) ∧ ((ka3 1 (ka3 ((n - 1) * 2) (dI .i64 l)))[0]? = some (D.lit (.int .i64 (ka1 l (((n - 1) * 2) + 1) 0)))) ∧ (¬ ((ka1 l (((n - 1) * 2) + 1) 0) ≤ hi))) [(6, bV false)] [] 1 ⟨zo, (by have h0 := (f6 l n zo zo); rw [hx2] at h0; exact h0), rfl, zo, cV, zo, zo, zo, cV, zo⟩ ?_
     refine AW.ret ?_
     exact kC (.inr rfl) [] (P := ((dR l n lo hi) = false)) zk (by exact k1q zo)
   ·refine kI (.no :: .b true :: .no :: .no :: .call [] (bV true) [] 0 [] none :: kT 4 (.n 0 :: .no :: .d (D.lit (.int .i64 (ka1 l 0 0))) :: .no :: .b false :: kT 4 [])) ((((0 : Int) ≤ ((n : Int) - 1))) ∧ (Fun 130 [.agg [.d (dl l n)]] (kE []) 0 (bV true) (kE []) 0) ∧ (kM 0) ∧ ((0 : Nat) < n) ∧ ((ka3 0 (ka3 0 (dI .i64 l)))[0]? = some (D.lit (.int .i64 (ka1 l 0 0)))) ∧ (¬ (lo ≤ (ka1 l 0 0)))) [(6, bV false)] [] 1 ⟨zo, (by have h0 := (f6 l n zo zo); rw [hx2] at h0; exact h0), rfl, zo, cV, zo⟩ ?_
    refine AW.ret ?_
    exact kC (.inr rfl) [] (P := ((dR l n lo hi) = false)) zk (by exact k1q zo)
  ·refine kI (.no :: .b true :: .no :: .no :: .call [] (bV false) [] 0 [] none :: kT 6 []) ((((0 : Int) ≤ ((n : Int) - 1))) ∧ (Fun 130 [.agg [.d (dl l n)]] (kE []) 0 (bV false) (kE []) 0)) [(6, bV false)] [] 1 ⟨zo, (by have h0 := (f6 l n zo zo); rw [hx2] at h0; exact h0)⟩ ?_
   refine AW.ret ?_
   exact kC (.inr rfl) [] (P := ((dR l n lo hi) = false)) zk (by exact u3i (by assumption))
 ·refine kI (.no :: .b false :: kT 7 []) (¬ ((0 : Int) ≤ ((n : Int) - 1))) [(6, bV false)] [] 1 zo ?_
  refine AW.ret ?_
  exact kC (.inr rfl) [] (P := ((dR l n lo hi) = false)) zk (by exact k1q zo)
abbrev mH (k : Int) (r : List Int) (rn : Nat) (m : List (List Int)) (c : Nat) (s : List Int) (sn : Nat) : BC := .ds [iD k, D.sl (dI .i64 r) rn, D.sl (kL m) c, D.sl (dI .i64 s) sn]
theorem u0s (k : Int) (r : List Int) (rn : Nat) (m : List (List Int)) (c : Nat) (s : List Int) (sn : Nat) (hr : ka0 r = rn * 2) (hs : ka0 s = sn * 2) (hc : ka0 m = c) (h1 : rn ≤ 1000000) (h2 : sn ≤ 1000000) (h3 : c ≤ 1000000) (hW : MsW m) : Fun 47 [.agg [iC k, .d (D.sl (dI .i64 r) rn), .d (D.sl (kL m) c), .d (D.sl (dI .i64 s) sn)]] (kE []) 0 (qS (D.lit (.bool (dK k r rn m s sn)))) (kE []) 0 := by
 refine Fun.mk (n := 54) Tryz.func47 rfl rfl (ka4 rfl) ?_
 intro cx hcx
 refine kI [.no, .no] True [(1, rV 0 0)] [(0, some (59, (mH k r rn m c s sn)))] 1 trivial ?_
 refine AW.seq ?_
 by_cases hx1 : (k = 0)
 ·refine kN (.no :: .no :: .b true :: kT 6 []) ((k = 0)) [(1, rV 0 0), (25, bV true)] zo ?_
  refine zt ?_
  refine kI [.no] True [(2, bV false)] [] 1 trivial ?_
  refine AW.ret ?_
  exact kC (.inr rfl) [] (P := ((dK k r rn m s sn) = false)) zk (by exact k97 zo)
 ·by_cases hx2 : ((eH k) ≠ 0)
  ·refine kN [.no, .no, .b false, .no, .no, .no, .i (eH k), .b true, .no, .no, .no, .no, .no] ((¬ (k = 0)) ∧ (qI .andNot .i64 k 254 = (eH k)) ∧ (((eH k) ≠ 0))) [(1, rV 0 0), (25, bV true)] ⟨zo, rfl, zo⟩ ?_
   refine zt ?_
   refine kI [.no] True [(2, bV false)] [] 1 trivial ?_
   refine AW.ret ?_
   exact kC (.inr rfl) [] (P := ((dK k r rn m s sn) = false)) zk (by exact k97 zo)
  ·by_cases hx3 : (((c : Nat) : Int) < 1)
   ·refine kN (.no :: .no :: .b false :: .no :: .no :: .no :: .i (eH k) :: .b false :: kT 5 [.b true, .no, .no, .no]) ((¬ (k = 0)) ∧ (qI .andNot .i64 k 254 = (eH k)) ∧ (¬ ((eH k) ≠ 0)) ∧ (((c : Int) < 1))) [(1, rV 0 0), (25, bV true)] ⟨zo, rfl, zo, zo⟩ ?_
    refine zt ?_
    refine kI [.no] True [(2, bV false)] [] 1 trivial ?_
    refine AW.ret ?_
    exact kC (.inr rfl) [] (P := ((dK k r rn m s sn) = false)) zk (by exact k6k (k7j zo))
   ·by_cases hx4 : ((16 : Int) < ((c : Nat) : Int))
    ·refine kN (.no :: .no :: .b false :: .no :: .no :: .no :: .i (eH k) :: .b false :: kT 5 (.b false :: kT 5 [.b true, .no])) ((¬ (k = 0)) ∧ (qI .andNot .i64 k 254 = (eH k)) ∧ (¬ ((eH k) ≠ 0)) ∧ (¬ ((c : Int) < 1)) ∧ (((16 : Int) < (c : Int)))) [(1, rV 0 0), (25, bV true)] ⟨zo, rfl, zo, zo, zo⟩ ?_
     refine zt ?_
     refine kI [.no] True [(2, bV false)] [] 1 trivial ?_
     refine AW.ret ?_
     exact kC (.inr rfl) [] (P := ((dK k r rn m s sn) = false)) zk (by exact k6k (k7j zo))
    ·refine kN (.no :: .no :: .b false :: .no :: .no :: .no :: .i (eH k) :: .b false :: kT 5 (.b false :: kT 5 [.b false, .no])) ((¬ (k = 0)) ∧ (qI .andNot .i64 k 254 = (eH k)) ∧ (¬ ((eH k) ≠ 0)) ∧ (¬ ((c : Int) < 1)) ∧ (¬ ((16 : Int) < (c : Int)))) [(1, rV 0 0), (25, bV false)] ⟨zo, rfl, zo, zo, zo⟩ ?_
     refine q8 ?_
     refine AW.seq ?_
     refine kN (kT 4 []) True [(1, rV 0 0), (27, qJ (kL m) c), (28, uV c), (29, iV 0)] trivial ?_
     refine AW.block ?_
     refine kU 0 hcx (fun (x : {x : Nat // match x with | i => (i ≤ c) ∧ (∀ j, j < i → xR m j = true)}) => match x with | ⟨i, _⟩ => (⟨[(1, rV 0 0), (27, qJ (kL m) c), (28, uV c), (29, uV i)], [(0, some (59, (mH k r rn m c s sn)))], 1⟩ : ES)) (fun x => match x with | ⟨i, _⟩ => c - i) ⟨(0 : Nat), ⟨zo, (fun j hj => absurd hj (kd1 j))⟩⟩ [] (P := (kG 0) ∧ (kJ (kL m)) ∧ (kG c) ∧ (kM (c : Int)) ∧ (kM 0) ∧ (kJ [iD k, dl r rn, D.sl (kL m) c, dl s sn])) zk ⟨rfl, rfl, rfl, rfl, rfl, rfl⟩ ?_
     rintro ⟨i, hinv0⟩
     obtain ⟨hi, ha⟩ : (i ≤ c) ∧ (∀ j, j < i → xR m j = true) := hinv0
     refine qN (l := [(1, rV 0 0), (27, qJ (kL m) c), (28, uV c), (29, uV i)]) (g := [(0, some (59, (mH k r rn m c s sn)))]) (nx := 1) rfl rfl rfl ?_
     by_cases hx5 : (((i : Nat) : Int) < ((c : Nat) : Int))
     ·refine kI [.b true] (((i : Int) < (c : Int))) [(1, rV 0 0), (27, qJ (kL m) c), (28, uV c), (29, uV i), (30, bV true)] [(0, some (59, (mH k r rn m c s sn)))] 1 zo ?_
      refine AW.seq ?_
      refine yW ?_
      refine AW.seq ?_
      refine AW.block ?_
      have hx6 : ((ka0 (ka1 m i ([] : List Int))) ≤ 1000000) := MsW.at (kZ : MsW m) _
      refine kN [.no, .n i, .d (dl (ka1 m i ([] : List Int)) (ka0 (ka1 m i ([] : List Int)))), .no, .no] ((kM (i : Int)) ∧ (i < c) ∧ ((ka3 i (kL m))[0]? = some (dl (ka1 m i ([] : List Int)) (ka0 (ka1 m i ([] : List Int)))))) [(1, rV 0 0), (3, uV i), (4, sV .i64 (ka1 m i ([] : List Int)) (ka0 (ka1 m i ([] : List Int)))), (27, qJ (kL m) c), (28, uV c), (29, uV i)] ⟨rfl, zo, (yE _ _ zo)⟩ ?_
      rcases ka6 (lJ (ka1 m i ([] : List Int)) (ka0 (ka1 m i ([] : List Int)))) with hx7 | hx7
      ·rcases ka6 (d9 (ka5 i m) (ka1 m i ([] : List Int))) with hx8 | hx8
       ·refine kN (.no :: .call [] (bV true) [] 0 [] none :: kT 5 [.sls 0 i i (kL (ka5 i m)), .no, .call [] (bV true) [] 0 [] none, .no]) ((Fun 91 [.c (.d (dl (ka1 m i ([] : List Int)) (ka0 (ka1 m i ([] : List Int)))))] (kE []) 0 (bV true) (kE []) 0) ∧ (kG 0) ∧ (kM (i : Int)) ∧ ((0 : Nat) ≤ i) ∧ (i ≤ c) ∧ (i - 0 = i) ∧ (ka5 (i * 1) (ka3 (0 * 1) (kL m)) = (kL (ka5 i m))) ∧ (Fun 83 [.c (.d (D.sl (kL (ka5 i m)) i)), .c (.d (dl (ka1 m i ([] : List Int)) (ka0 (ka1 m i ([] : List Int)))))] (kE []) 0 (bV true) (kE []) 0)) [(1, rV 0 0), (27, qJ (kL m) c), (28, uV c), (29, uV i), (44, bV true)] ⟨(by have h0 := (nG (ka1 m i ([] : List Int)) (ka0 (ka1 m i ([] : List Int))) rfl zo); rw [hx7] at h0; exact h0), rfl, rfl, zo, zo, zo, (iI _ _), (by have h0 := (eF (ka5 i m) i (ka1 m i ([] : List Int)) (ka0 (ka1 m i ([] : List Int))) (by (simp only [qH, qE, ka9, kb0, kb3, kb2, kb5, kb4, kc1] <;> omega)) rfl zo zo (MsW.take (kZ : MsW m) _)); rw [hx8] at h0; exact h0)⟩ ?_
        refine zt ?_
        refine kI [.no] True [(2, bV false)] [] 1 trivial ?_
        refine AW.ret ?_
        exact kC (.inr rfl) [] (P := ((dK k r rn m s sn) = false)) zk (by exact k6k (k7k (k := i) zo (by exact k9r (by assumption))))
       ·refine kN (.no :: .call [] (bV true) [] 0 [] none :: kT 5 [.sls 0 i i (kL (ka5 i m)), .no, .call [] (bV false) [] 0 [] none, .no]) ((Fun 91 [.c (.d (dl (ka1 m i ([] : List Int)) (ka0 (ka1 m i ([] : List Int)))))] (kE []) 0 (bV true) (kE []) 0) ∧ (kG 0) ∧ (kM (i : Int)) ∧ ((0 : Nat) ≤ i) ∧ (i ≤ c) ∧ (i - 0 = i) ∧ (ka5 (i * 1) (ka3 (0 * 1) (kL m)) = (kL (ka5 i m))) ∧ (Fun 83 [.c (.d (D.sl (kL (ka5 i m)) i)), .c (.d (dl (ka1 m i ([] : List Int)) (ka0 (ka1 m i ([] : List Int)))))] (kE []) 0 (bV false) (kE []) 0)) [(1, rV 0 0), (27, qJ (kL m) c), (28, uV c), (29, uV i), (44, bV false)] ⟨(by have h0 := (nG (ka1 m i ([] : List Int)) (ka0 (ka1 m i ([] : List Int))) rfl zo); rw [hx7] at h0; exact h0), rfl, rfl, zo, zo, zo, (iI _ _), (by have h0 := (eF (ka5 i m) i (ka1 m i ([] : List Int)) (ka0 (ka1 m i ([] : List Int))) (by (simp only [qH, qE, ka9, kb0, kb3, kb2, kb5, kb4, kc1] <;> omega)) rfl zo zo (MsW.take (kZ : MsW m) _)); rw [hx8] at h0; exact h0)⟩ ?_
        refine q8 ?_
        refine uJ [.w, .no] (uZ ((i : Int) + 1)) [(1, rV 0 0), (27, qJ (kL m) c), (28, uV c), (29, iV (↑i + 1))] ⟨by omega, by omega⟩ ?_
        exact kX ⟨((i + 1) : Nat), ⟨zo, (fun j hj => (Nat.lt_succ_iff_lt_or_eq.1 hj).elim (ha j) (fun e9 => by subst e9; exact k31 (by assumption) (by assumption)))⟩⟩ [] (P := (kG 0) ∧ (kJ (kL m)) ∧ (kG c) ∧ (kM (c : Int)) ∧ (vX i) ∧ (kJ [iD k, dl r rn, D.sl (kL m) c, dl s sn])) zk ⟨rfl, rfl, rfl, rfl, (by rfl), rfl⟩ (show c - (i + 1) < c - i from zo)
      ·refine kN [.no, .call [] (bV false) [] 0 [] none, .no, .no, .no] (Fun 91 [.c (.d (dl (ka1 m i ([] : List Int)) (ka0 (ka1 m i ([] : List Int)))))] (kE []) 0 (bV false) (kE []) 0) [(1, rV 0 0), (27, qJ (kL m) c), (28, uV c), (29, uV i), (44, bV true)] (by have h0 := (nG (ka1 m i ([] : List Int)) (ka0 (ka1 m i ([] : List Int))) rfl zo); rw [hx7] at h0; exact h0) ?_
       refine zt ?_
       refine kI [.no] True [(2, bV false)] [] 1 trivial ?_
       refine AW.ret ?_
       exact kC (.inr rfl) [] (P := ((dK k r rn m s sn) = false)) zk (by exact k6k (k7k (k := i) zo (by exact k9s (by assumption))))
     ·refine kI [.b false] (¬ ((i : Int) < (c : Int))) [(1, rV 0 0), (27, qJ (kL m) c), (28, uV c), (29, uV i), (30, bV false)] [(0, some (59, (mH k r rn m c s sn)))] 1 zo ?_
      refine AW.seq ?_
      refine zf ?_
      refine AW.exit ?_
      rcases ka6 (dR r rn 1000 768000) with hx9 | hx9
      ·rcases ka6 (dR s sn 1 65536) with hx10 | hx10
       ·refine kI [.no, .no, .call [] (bV true) [] 0 [] none, .no, .no, .no, .call [] (bV true) [] 0 [] none, .no, .no] ((Fun 92 [.agg [.d (dl r rn)], iE 1000, iE 768000] (kE []) 0 (bV true) (kE []) 0) ∧ (Fun 92 [.agg [.d (dl s sn)], iE 1, iE 65536] (kE []) 0 (bV true) (kE []) 0)) [(2, bV true)] [] 1 ⟨(by have h0 := (fH r rn 1000 768000 zo zo); rw [hx9] at h0; exact h0), (by have h0 := (fH s sn 1 65536 zo zo); rw [hx10] at h0; exact h0)⟩ ?_
        refine AW.ret ?_
        exact kC (.inr rfl) [] (P := ((dK k r rn m s sn) = true)) zk (by exact u33 zo (by assumption) (u1b zo zo (fun j hj => ha j zo)) (by assumption))
       ·refine kI [.no, .no, .call [] (bV true) [] 0 [] none, .no, .no, .no, .call [] (bV false) [] 0 [] none, .no, .no] ((Fun 92 [.agg [.d (dl r rn)], iE 1000, iE 768000] (kE []) 0 (bV true) (kE []) 0) ∧ (Fun 92 [.agg [.d (dl s sn)], iE 1, iE 65536] (kE []) 0 (bV false) (kE []) 0)) [(2, bV false)] [] 1 ⟨(by have h0 := (fH r rn 1000 768000 zo zo); rw [hx9] at h0; exact h0), (by have h0 := (fH s sn 1 65536 zo zo); rw [hx10] at h0; exact h0)⟩ ?_
        refine AW.ret ?_
        exact kC (.inr rfl) [] (P := ((dK k r rn m s sn) = false)) zk (by exact u67 (by assumption))
      ·refine kI [.no, .no, .call [] (bV false) [] 0 [] none, .no, .no, .no] (Fun 92 [.agg [.d (dl r rn)], iE 1000, iE 768000] (kE []) 0 (bV false) (kE []) 0) [(2, bV false)] [] 1 (by have h0 := (fH r rn 1000 768000 zo zo); rw [hx9] at h0; exact h0) ?_
       refine AW.ret ?_
       exact kC (.inr rfl) [] (P := ((dK k r rn m s sn) = false)) zk (by exact u68 (by assumption))
@[reducible] def uY (x : List Bx) (i : Nat) : List D := [iD (k9 x i), dl (qF x i) (qB x i), D.sl (kL (kY x i)) (ka0 (kY x i)), dl (qG x i) (qC x i)]
@[reducible] def b8 (x : List Bx) (i : Nat) : E1 := .agg [iC (k9 x i), .d (dl (qF x i) (qB x i)), .d (D.sl (kL (kY x i)) (ka0 (kY x i))), .d (dl (qG x i) (qC x i))]
@[reducible] def kQ (x : List Bx) (n : Nat) : E1 := (.c (.d (D.sl (kP x) n)))
theorem vJ (bs : List Bx) (n : Nat) (hn : ka0 bs = n) (h1 : n ≤ 1000000) (hW : BsW bs) : Fun 19 [.c (.d (D.sl (kP bs) n))] (kE []) 0 (qS (D.lit (.bool (aJ bs)))) (kE []) 0 := by
 refine Fun.mk (n := 18) Tryz.func19 rfl rfl (ka4 rfl) ?_
 intro cx hcx
 refine kI [.no] True [(0, .e (kQ bs n))] [] 0 trivial ?_
 refine AW.seq ?_
 refine kN [.no, .no, .no] True [(0, .e (kQ bs n)), (5, .e (kQ bs n)), (6, uV n), (7, iV 0)] trivial ?_
 refine AW.block ?_
 refine kU 0 hcx (fun (x : {x : Nat // match x with | i => (i ≤ n) ∧ (∀ j, j < i → vbE bs j = true)}) => match x with | ⟨i, _⟩ => (⟨[(0, .e (kQ bs n)), (5, .e (kQ bs n)), (6, uV n), (7, uV i)], [], 0⟩ : ES)) (fun x => match x with | ⟨i, _⟩ => n - i) ⟨(0 : Nat), ⟨zo, (fun j hj => absurd hj (kd1 j))⟩⟩ [] (P := (kJ (kP bs)) ∧ (kG n) ∧ (kJ (kP bs)) ∧ (kG n) ∧ (kM (n : Int)) ∧ (kM 0)) zk ⟨rfl, rfl, rfl, rfl, rfl, rfl⟩ ?_
 rintro ⟨i, hinv0⟩
 obtain ⟨hi, ha⟩ : (i ≤ n) ∧ (∀ j, j < i → vbE bs j = true) := hinv0
 refine qN (l := [(0, .e (kQ bs n)), (5, .e (kQ bs n)), (6, uV n), (7, uV i)]) (g := []) (nx := 0) rfl rfl rfl ?_
 by_cases hx1 : (((i : Nat) : Int) < ((n : Nat) : Int))
 ·refine kI [.b true] (((i : Int) < (n : Int))) [(0, .e (kQ bs n)), (5, .e (kQ bs n)), (6, uV n), (7, uV i), (8, bV true)] [] 0 zo ?_
  refine AW.seq ?_
  refine yW ?_
  refine AW.seq ?_
  refine AW.block ?_
  obtain ⟨hx2, hx3, hx4, hx5, hx6⟩ := BsW.at (kZ : BsW bs) (i)
  refine kI [.n i, .ds (uY bs i), .no, .no] ((kM (i : Int)) ∧ (i < n) ∧ (ka5 4 (ka3 (i * 4) (kP bs)) = (uY bs i)) ∧ (((uY bs i) : List D).length = 4)) [(0, .e (kQ bs n)), (4, rV 0 0), (5, .e (kQ bs n)), (6, uV n), (7, uV i)] [(0, some (59, .ds (uY bs i)))] 1 ⟨rfl, zo, (yF zo), rfl⟩ ?_
  rcases ka6 (dK (k9 bs i) (qF bs i) (qB bs i) (kY bs i) (qG bs i) (qC bs i)) with hx7 | hx7
  ·refine kI [.no, .call [] (bV true) [] 0 [] none, .no] (Fun 47 [(b8 bs i)] (kE []) 0 (bV true) (kE []) 0) [(0, .e (kQ bs n)), (5, .e (kQ bs n)), (6, uV n), (7, uV i), (13, bV false)] [] 1 (by have h0 := (u0s (k9 bs i) (qF bs i) (qB bs i) (kY bs i) (ka0 (kY bs i)) (qG bs i) (qC bs i) zo zo rfl zo zo zo (BsW.ms (kZ : BsW bs) _)); rw [hx7] at h0; exact h0) ?_
   refine q8 ?_
   refine uJ [.w, .no] (uZ ((i : Int) + 1)) [(0, .e (kQ bs n)), (5, .e (kQ bs n)), (6, uV n), (7, iV (↑i + 1))] ⟨by omega, by omega⟩ ?_
   exact kX ⟨((i + 1) : Nat), ⟨zo, (fun j hj => (Nat.lt_succ_iff_lt_or_eq.1 hj).elim (ha j) (fun e9 => by subst e9; assumption))⟩⟩ [] (P := (kJ (kP bs)) ∧ (kG n) ∧ (kJ (kP bs)) ∧ (kG n) ∧ (kM (n : Int)) ∧ (vX i)) zk ⟨rfl, rfl, rfl, rfl, rfl, (by rfl)⟩ (show n - (i + 1) < n - i from zo)
  ·refine kI [.no, .call [] (bV false) [] 0 [] none, .no] (Fun 47 [(b8 bs i)] (kE []) 0 (bV false) (kE []) 0) [(0, .e (kQ bs n)), (5, .e (kQ bs n)), (6, uV n), (7, uV i), (13, bV true)] [] 1 (by have h0 := (u0s (k9 bs i) (qF bs i) (qB bs i) (kY bs i) (ka0 (kY bs i)) (qG bs i) (qC bs i) zo zo rfl zo zo zo (BsW.ms (kZ : BsW bs) _)); rw [hx7] at h0; exact h0) ?_
   refine zt ?_
   refine kN [.no] True [(2, bV false)] trivial ?_
   refine AW.ret ?_
   exact kC (.inr rfl) [] (P := ((aJ bs) = false)) zk (by exact u3m (k := i) zo (by assumption))
 ·refine kI [.b false] (¬ ((i : Int) < (n : Int))) [(0, .e (kQ bs n)), (5, .e (kQ bs n)), (6, uV n), (7, uV i), (8, bV false)] [] 0 zo ?_
  refine AW.seq ?_
  refine zf ?_
  refine AW.exit ?_
  by_cases hx8 : (((n : Nat) : Int) ≤ 64)
  ·refine kI [.no, .no, .b true, .no] (((n : Int) ≤ 64)) [(2, bV true)] [] 0 zo ?_
   refine AW.ret ?_
   exact kC (.inr rfl) [] (P := ((aJ bs) = true)) zk (by exact u1d zo (fun j hj => ha j zo))
  ·refine kI [.no, .no, .b false, .no] (¬ ((n : Int) ≤ 64)) [(2, bV false)] [] 0 zo ?_
   refine AW.ret ?_
   exact kC (.inr rfl) [] (P := ((aJ bs) = false)) zk (by exact u3l zo)
end Go.Proofs.YtcfmjpnffembpaaGreat
