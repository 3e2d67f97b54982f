/- Valid lists of boxes. No statement is proved here. -/
import Derived.Test.YtbicifcgghmhaaaGreatZL10A
import Derived.Test.YtbicifcgghmhaaaGreatZL09C
namespace Go.Proofs.YtbicifcgghmhaaaGreat
open Go.ChangeShapes Go.WideShapes Go.ChangeAt Go.RowKit
open Bool renaming and_false → kc9, false_and → kh6
open List renaming drop → ka3, drop_drop → kc8, getD → ka1, getD_eq_getElem?_getD → ka8, getElem?_eq_getElem → ka7, length → ka0, length_append → ka6, length_cons → ka9, length_drop → kb2, length_map → kc3, length_nil → kb0, length_replicate → kb4, length_reverse → kc1, length_set → kb8, length_take → kb1, mem_of_getElem? → ke3, mem_of_mem_take → kh2, take → ka5
open Nat renaming zero_le → ke2
set_option linter.unusedVariables false
set_option linter.unusedSimpArgs false
/-! chapter 10: maps and boxes as data -/
set_option maxHeartbeats 4000000
set_option maxRecDepth 100000
def kK (xs : List (List Int)) : List D := xs.map fun l => D.sl (dI .i64 l) l.length
theorem kZ (xs : List (List Int)) : ka0 (kK xs) = ka0 xs := by unfold kK; simp
theorem sR (xs : List (List Int)) (l : List Int) (n : Nat) (h : l.length = n) : kK xs ++ [D.sl (dI .i64 l) n] = kK (xs ++ [l]) := by subst h; unfold kK; simp
theorem bK (xs : List (List Int)) (i : Nat) (h : i < xs.length) : (ka3 i (kK xs))[0]? = some (D.sl (dI .i64 (ka1 xs i [])) (ka1 xs i []).length) := by
 unfold kK
 rw [List.getElem?_drop, Nat.add_zero, List.getElem?_map, ka7 h, ka8, ka7 h]; rfl
theorem xK (xs : List (List Int)) (n : Nat) : ka5 (n * 1) (ka3 (0 * 1) (kK xs)) = kK (ka5 n xs) := by unfold kK; simp [List.map_take]
def MsW (xs : List (List Int)) : Prop := ∀ l ∈ xs, ka0 l ≤ 1000000
theorem MsW.at {xs : List (List Int)} (h : MsW xs) (i : Nat) : ka0 (ka1 xs i []) ≤ 1000000 := by
 rw [ka8]
 cases e : xs[i]? with
 | none => exact ke2 _
 | some l => exact h l (ke3 e)
theorem MsW.nil : MsW [] := fun l h => by cases h
theorem MsW.snoc {xs : List (List Int)} {l : List Int} (h : MsW xs) (hl : ka0 l ≤ 1000000) : MsW (xs ++ [l]) := fun m hm => (List.mem_append.1 hm).elim (h m) fun hm => by
 rw [List.mem_singleton.1 hm]; exact hl
theorem MsW.take {xs : List (List Int)} (h : MsW xs) (n : Nat) : MsW (ka5 n xs) := fun m hm => h m (kh2 hm)
def iJ (xs : List (List Int)) (m : List Int) : Bool := decide (m ∈ xs)
theorem v4i {xs : List (List Int)} {m : List Int} {k : Nat} (hk : k < xs.length) (h : bL (ka1 xs k []) m = true) : iJ xs m = true := by
 have e : ka1 xs k [] = xs[k] := by rw [ka8, ka7 hk]; rfl
 have h1 := u6i h
 rw [e] at h1
 exact decide_eq_true (h1 ▸ List.getElem_mem hk)
theorem v4j {xs : List (List Int)} {m : List Int} (h : ∀ j, j < xs.length → bL (ka1 xs j []) m = false) : iJ xs m = false := by
 refine decide_eq_false fun hm => ?_
 obtain ⟨j, hj, e⟩ := List.mem_iff_getElem.1 hm
 have h1 := u6h (h j hj)
 have e1 : ka1 xs j [] = xs[j] := by rw [ka8, ka7 hj]; rfl
 exact h1 (by rw [e1, e])
def vmE (xs : List (List Int)) (i : Nat) : Bool := wK (ka1 xs i []) (ka1 xs i []).length && !(iJ (ka5 i xs) (ka1 xs i []))
def nB (xs : List (List Int)) : Bool := decide (1 ≤ xs.length ∧ xs.length ≤ 16 ∧ ∀ i, i < xs.length → vmE xs i = true)
theorem k3w {xs : List (List Int)} (h1 : 1 ≤ xs.length) (h2 : xs.length ≤ 16) (h : ∀ i, i < xs.length → vmE xs i = true) : nB xs = true := decide_eq_true ⟨h1, h2, h⟩
theorem k5c {xs : List (List Int)} {k : Nat} (hk : k < xs.length) (h : vmE xs k = false) : nB xs = false := decide_eq_false fun h1 => by
 have := h1.2.2 k hk; rw [h] at this; cases this
theorem k5a {xs : List (List Int)} (h : xs.length < 1 ∨ 16 < xs.length) : nB xs = false := decide_eq_false fun h1 => by omega
theorem u3w {xs : List (List Int)} {i : Nat} (h1 : wK (ka1 xs i []) (ka1 xs i []).length = true) (h2 : iJ (ka5 i xs) (ka1 xs i []) = false) : vmE xs i = true := by unfold vmE; rw [h1, h2]; rfl
theorem u9f {xs : List (List Int)} {i : Nat} (h1 : wK (ka1 xs i []) (ka1 xs i []).length = false) : vmE xs i = false := by unfold vmE; rw [h1]; rfl
theorem u9e {xs : List (List Int)} {i : Nat} (h2 : iJ (ka5 i xs) (ka1 xs i []) = true) : vmE xs i = false := by unfold vmE; rw [h2]; cases wK (ka1 xs i []) (ka1 xs i []).length <;> rfl
def eZ (l : List Int) (n : Nat) (lo hi : Int) : Bool := gK l n && decide (1 ≤ n ∧ lo ≤ ka1 l 0 0 ∧ ka1 l ((n - 1) * 2 + 1) 0 ≤ hi)
theorem u6a {l : List Int} {n : Nat} {lo hi : Int} (h : gK l n = true) (h2 : 1 ≤ n ∧ lo ≤ ka1 l 0 0 ∧ ka1 l ((n - 1) * 2 + 1) 0 ≤ hi) : eZ l n lo hi = true := by unfold eZ; rw [h, decide_eq_true h2]; rfl
theorem v3c {l : List Int} {n : Nat} {lo hi : Int} (h : gK l n = false) : eZ l n lo hi = false := by unfold eZ; rw [h]; rfl
theorem v3d {l : List Int} {n : Nat} {lo hi : Int} (h2 : ¬ (1 ≤ n ∧ lo ≤ ka1 l 0 0 ∧ ka1 l ((n - 1) * 2 + 1) 0 ≤ hi)) : eZ l n lo hi = false := by unfold eZ; rw [decide_eq_false h2]; cases gK l n <;> rfl
structure Bx where
 k : Int
 r : List Int
 rn : Nat
 m : List (List Int)
 s : List Int
 sn : Nat
def bx0 : Bx := ⟨0, [], 0, [], [], 0⟩
def bxR (b : Bx) : List D := [D.lit (.int .i64 b.k), D.sl (dI .i64 b.r) b.rn, D.sl (kK b.m) b.m.length, D.sl (dI .i64 b.s) b.sn]
def kU : List Bx → List D
 | [] => []
 | b :: r => bxR b ++ kU r
theorem kY : ∀ xs : List Bx, ka0 (kU xs) = ka0 xs * 4
 | [] => rfl
 | b :: r => by show ka0 (bxR b ++ kU r) = (ka0 r + 1) * 4; rw [ka6, kY r]; show 4 + _ = _; omega
theorem mQ : ∀ a b : List Bx, kU (a ++ b) = kU a ++ kU b
 | [], _ => rfl
 | l :: r, b => by show bxR l ++ kU (r ++ b) = bxR l ++ kU r ++ kU b; rw [mQ r b, List.append_assoc]
theorem zI : ∀ (i : Nat) (xs : List Bx), ka3 (i * 4) (kU xs) = kU (ka3 i xs)
 | 0, _ => rfl
 | i + 1, [] => by simp [kU]
 | i + 1, l :: r => by
  show ka3 ((i + 1) * 4) (bxR l ++ kU r) = kU (ka3 i r)
  rw [show (i + 1) * 4 = 4 + i * 4 by omega, ← kc8, ← zI i r]; rfl
def vC (xs : List Bx) (i : Nat) : Bx := ka1 xs i bx0
def kT (xs : List Bx) (i : Nat) : Int := (vC xs i).k
def qE (xs : List Bx) (i : Nat) : List Int := (vC xs i).r
def k9 (xs : List Bx) (i : Nat) : Nat := (vC xs i).rn
def kW (xs : List Bx) (i : Nat) : List (List Int) := (vC xs i).m
def qD (xs : List Bx) (i : Nat) : List Int := (vC xs i).s
def k8 (xs : List Bx) (i : Nat) : Nat := (vC xs i).sn
theorem u39 {xs : List Bx} {i : Nat} (h : i < ka0 xs) : kU (ka3 i xs) = bxR (vC xs i) ++ kU (ka3 (i + 1) xs) := by
 have e : vC xs i = xs[i] := by unfold vC; rw [ka8, ka7 h]; rfl
 rw [List.drop_eq_getElem_cons h, e]; rfl
theorem vN {xs : List Bx} {i : Nat} (h : i < ka0 xs) : ka5 4 (ka3 (i * 4) (kU xs)) = [D.lit (.int .i64 (kT xs i)), D.sl (dI .i64 (qE xs i)) (k9 xs i), D.sl (kK (kW xs i)) (ka0 (kW xs i)), D.sl (dI .i64 (qD xs i)) (k8 xs i)] := by
 rw [zI, u39 h]; rfl
def BxW (b : Bx) : Prop := ka0 b.r = b.rn * 2 ∧ ka0 b.s = b.sn * 2 ∧ b.rn ≤ 1000000 ∧ b.sn ≤ 1000000 ∧ ka0 b.m ≤ 1000000 ∧ MsW b.m
def BsW (xs : List Bx) : Prop := ∀ b ∈ xs, BxW b
theorem v23 : BxW bx0 := ⟨rfl, rfl, ke2 _, ke2 _, ke2 _, MsW.nil⟩
theorem BsW.get {xs : List Bx} (h : BsW xs) (i : Nat) : BxW (vC xs i) := by
 unfold vC
 rw [ka8]
 cases e : xs[i]? with
 | none => exact v23
 | some l => exact h l (ke3 e)
theorem BsW.at {xs : List Bx} (h : BsW xs) (i : Nat) : ka0 (qE xs i) = k9 xs i * 2 ∧ ka0 (qD xs i) = k8 xs i * 2 ∧ k9 xs i ≤ 1000000 ∧ k8 xs i ≤ 1000000 ∧ ka0 (kW xs i) ≤ 1000000 := by
 have h1 := h.get i
 exact ⟨h1.1, h1.2.1, h1.2.2.1, h1.2.2.2.1, h1.2.2.2.2.1⟩
theorem BsW.ms {xs : List Bx} (h : BsW xs) (i : Nat) : MsW (kW xs i) := (h.get i).2.2.2.2.2
theorem BsW.take {xs : List Bx} (h : BsW xs) (n : Nat) : BsW (ka5 n xs) := fun m hm => h m (kh2 hm)
theorem BsW.drop {xs : List Bx} (h : BsW xs) (n : Nat) : BsW (ka3 n xs) := fun m hm => h m (List.mem_of_mem_drop hm)
theorem BsW.app {xs ys : List Bx} (h : BsW xs) (h2 : BsW ys) : BsW (xs ++ ys) := fun m hm => (List.mem_append.1 hm).elim (h m) (h2 m)
theorem BsW.nil : BsW [] := fun l h => by cases h
theorem BsW.one {b : Bx} (h : BxW b) : BsW [b] := fun m hm => by rw [List.mem_singleton.1 hm]; exact h
def lN (k : Int) : Int := qM .andNot .i64 k 254
def e7 (k : Int) : Int := qM .and .i64 k 1
def jR (k : Int) (q : Nat) : Bool := decide (1 ≤ q ∧ q ≤ 7 ∧ e7 (k / ((2 ^ q : Nat) : Int)) = 1)
def gO (k : Int) (r : List Int) (rn : Nat) (m : List (List Int)) (s : List Int) (sn : Nat) : Bool := decide (¬ k = 0 ∧ lN k = 0) && (eZ r rn 1000 768000 && (nB m && eZ s sn 1 65536))
def vbE (xs : List Bx) (i : Nat) : Bool := gO (kT xs i) (qE xs i) (k9 xs i) (kW xs i) (qD xs i) (k8 xs i)
def c8 (xs : List Bx) : Bool := decide (xs.length ≤ 64 ∧ ∀ i, i < xs.length → vbE xs i = true)
theorem u9g {xs : List Bx} (h2 : xs.length ≤ 64) (h : ∀ i, i < xs.length → vbE xs i = true) : c8 xs = true := decide_eq_true ⟨h2, h⟩
theorem v3i {xs : List Bx} {k : Nat} (hk : k < xs.length) (h : vbE xs k = false) : c8 xs = false := decide_eq_false fun h1 => by
 have := h1.2 k hk; rw [h] at this; cases this
theorem u6c {xs : List Bx} (h : 64 < xs.length) : c8 xs = false := decide_eq_false fun h1 => by omega
theorem u01 {k : Int} {r : List Int} {rn : Nat} {m : List (List Int)} {s : List Int} {sn : Nat} (h1 : ¬ k = 0 ∧ lN k = 0) (h2 : eZ r rn 1000 768000 = true) (h3 : nB m = true) (h4 : eZ s sn 1 65536 = true) : gO k r rn m s sn = true := by
 unfold gO; rw [h2, h3, h4, decide_eq_true h1]; rfl
theorem v4r {k : Int} {r : List Int} {rn : Nat} {m : List (List Int)} {s : List Int} {sn : Nat} (h1 : ¬ (¬ k = 0 ∧ lN k = 0)) : gO k r rn m s sn = false := by
 unfold gO; rw [decide_eq_false h1]; rfl
theorem v4p {k : Int} {r : List Int} {rn : Nat} {m : List (List Int)} {s : List Int} {sn : Nat} (h2 : eZ r rn 1000 768000 = false) : gO k r rn m s sn = false := by
 unfold gO; rw [h2, kh6, kc9]
theorem v4q {k : Int} {r : List Int} {rn : Nat} {m : List (List Int)} {s : List Int} {sn : Nat} (h3 : nB m = false) : gO k r rn m s sn = false := by
 unfold gO; rw [h3, kh6, kc9, kc9]
theorem v4o {k : Int} {r : List Int} {rn : Nat} {m : List (List Int)} {s : List Int} {sn : Nat} (h4 : eZ s sn 1 65536 = false) : gO k r rn m s sn = false := by
 unfold gO; rw [h4, kc9, kc9, kc9]
def kL (xs : List Bx) : List Bx := if c8 xs = true then xs else []
theorem u02 {xs : List Bx} (h : c8 xs = true) : kL xs = xs := if_pos h
theorem u5e {xs : List Bx} (h : c8 xs = false) : kL xs = [] := if_neg (by rw [h]; decide)
theorem eC {xs : List Bx} (h : BsW xs) : BsW (kL xs) := by unfold kL; split; exact h; exact BsW.nil
theorem lM (xs : List Bx) : ka0 (kL xs) ≤ ka0 xs := by unfold kL; split; exact Nat.le_refl _; exact ke2 _
theorem m8 {p : Prop} (h : p := by first | (rw [kc8]; exact yG _ _ _ (by first | omega | (simp only [kZ, kY, qV, ka6, ka9, kb0, kb1, kb2, kb4, kb8, kc3, kc1, Nat.mul_one] <;> omega) | rfl)) | (rw [kc8, Nat.add_comm]; exact yG _ _ _ (by first | omega | (simp only [kZ, kY, qV, ka6, ka9, kb0, kb1, kb2, kb4, kb8, kc3, kc1, Nat.mul_one] <;> omega) | rfl))) : p := h
theorem m7 {p : Prop} (h : p := by first | exact u6a (by assumption) (by omega) | exact v3c (by assumption) | exact v3d (by omega)) : p := h
theorem lO (l : List Int) (n : Nat) (lo hi : Int) (hl : ka0 l = n * 2) (hb : n ≤ 1000000) : Fun 128 [.agg [.d (D.sl (dI .i64 l) n)], iE lo, iE hi] (kF []) 0 (u1 (D.lit (.bool (eZ l n lo hi)))) (kF []) 0 := by
 refine Fun.mk (n := 37) Tryz.func128 rfl rfl (Nat.le_of_ble_eq_true rfl) ?_
 intro cx hcx
 refine kI [.no, .no] True [(1, iV lo), (2, iV hi), (3, rV 0 0)] [(0, some (60, .ds [dl l n]))] 1 trivial ?_
 refine kS [.no, .no, .no, .w, .no] (yF ((n : Int) - 1)) [(1, iV lo), (2, iV hi), (3, rV 0 0), (7, iV (↑n - 1))] ⟨by omega, by omega⟩ ?_
 by_cases hx1 : ((0 : Int) ≤ (((n : Nat) : Int) - 1))
 ·rcases Bool.eq_false_or_eq_true (gK l n) with hx2 | hx2
  ·by_cases hx3 : (lo ≤ (ka1 l 0 0))
   ·by_cases hx4 : ((ka1 l (((n - 1) * 2) + 1) 0) ≤ hi)
    ·refine kI (.no :: .b true :: .no :: .no :: .call [] (bV true) [] 0 [] none :: qN 4 (.n 0 :: .no :: .d (D.lit (.int .i64 (ka1 l 0 0))) :: .no :: .b true :: qN 5 [.n (n - 1), .no, .d (D.lit (.int .i64 (ka1 l (((n - 1) * 2) + 1) 0))), .no, .b true, .no, .no])) ((((0 : Int) ≤ ((n : Int) - 1))) ∧ (Fun 155 [.agg [.d (dl l n)]] (kF []) 0 (bV true) (kF []) 0) ∧ (kP 0) ∧ ((0 : Nat) < n) ∧ ((ka3 0 (ka3 0 (dI .i64 l)))[0]? = some (D.lit (.int .i64 (ka1 l 0 0)))) ∧ ((lo ≤ (ka1 l 0 0))) ∧ ((((n : Int) - 1) : Int) = (((n - 1) : Nat) : Int)) ∧ ((n - 1) < n) ∧ ((ka3 1 (ka3 ((n - 1) * 2) (dI .i64 l)))[0]? = some (D.lit (.int .i64 (ka1 l (((n - 1) * 2) + 1) 0)))) ∧ (((ka1 l (((n - 1) * 2) + 1) 0) ≤ hi))) [(6, bV true)] [] 1 ⟨zo, (by have h0 := (gI l n zo zo); rw [hx2] at h0; exact h0), rfl, zo, m8, zo, (by first | rfl | omega), zo, m8, zo⟩ ?_
     refine AW.ret ?_
     exact EndP.of (.inr rfl) [] (P := ((eZ l n lo hi) = true)) zk m7
    ·refine kI (.no :: .b true :: .no :: .no :: .call [] (bV true) [] 0 [] none :: qN 4 (.n 0 :: .no :: .d (D.lit (.int .i64 (ka1 l 0 0))) :: .no :: .b true :: qN 5 [.n (n - 1), .no, .d (D.lit (.int .i64 (ka1 l (((n - 1) * 2) + 1) 0))), .no, .b false, .no, .no])) ((((0 : Int) ≤ ((n : Int) - 1))) ∧ (Fun 155 [.agg [.d (dl l n)]] (kF []) 0 (bV true) (kF []) 0) ∧ (kP 0) ∧ ((0 : Nat) < n) ∧ ((ka3 0 (ka3 0 (dI .i64 l)))[0]? = some (D.lit (.int .i64 (ka1 l 0 0)))) ∧ ((lo ≤ (ka1 l 0 0))) ∧ ((((n : Int) - 1) : Int) = (((n - 1) : Nat) : Int)) ∧ ((n - 1) < n) ∧ ((ka3 1 (ka3 ((n - 1) * 2) (dI .i64 l)))[0]? = some (D.lit (.int .i64 (ka1 l (((n - 1) * 2) + 1) 0)))) ∧ (¬ ((ka1 l (((n - 1) * 2) + 1) 0) ≤ hi))) [(6, bV false)] [] 1 ⟨zo, (by have h0 := (gI l n zo zo); rw [hx2] at h0; exact h0), rfl, zo, m8, zo, (by first | rfl | omega), zo, m8, zo⟩ ?_
     refine AW.ret ?_
     exact EndP.of (.inr rfl) [] (P := ((eZ l n lo hi) = false)) zk m7
   ·refine kI (.no :: .b true :: .no :: .no :: .call [] (bV true) [] 0 [] none :: qN 4 (.n 0 :: .no :: .d (D.lit (.int .i64 (ka1 l 0 0))) :: .no :: .b false :: qN 4 [])) ((((0 : Int) ≤ ((n : Int) - 1))) ∧ (Fun 155 [.agg [.d (dl l n)]] (kF []) 0 (bV true) (kF []) 0) ∧ (kP 0) ∧ ((0 : Nat) < n) ∧ ((ka3 0 (ka3 0 (dI .i64 l)))[0]? = some (D.lit (.int .i64 (ka1 l 0 0)))) ∧ (¬ (lo ≤ (ka1 l 0 0)))) [(6, bV false)] [] 1 ⟨zo, (by have h0 := (gI l n zo zo); rw [hx2] at h0; exact h0), rfl, zo, m8, zo⟩ ?_
    refine AW.ret ?_
    exact EndP.of (.inr rfl) [] (P := ((eZ l n lo hi) = false)) zk m7
  ·refine kI (.no :: .b true :: .no :: .no :: .call [] (bV false) [] 0 [] none :: qN 6 []) ((((0 : Int) ≤ ((n : Int) - 1))) ∧ (Fun 155 [.agg [.d (dl l n)]] (kF []) 0 (bV false) (kF []) 0)) [(6, bV false)] [] 1 ⟨zo, (by have h0 := (gI l n zo zo); rw [hx2] at h0; exact h0)⟩ ?_
   refine AW.ret ?_
   exact EndP.of (.inr rfl) [] (P := ((eZ l n lo hi) = false)) zk m7
 ·refine kI (.no :: .b false :: qN 7 []) (¬ ((0 : Int) ≤ ((n : Int) - 1))) [(6, bV false)] [] 1 zo ?_
  refine AW.ret ?_
  exact EndP.of (.inr rfl) [] (P := ((eZ l n lo hi) = false)) zk m7
end Go.Proofs.YtbicifcgghmhaaaGreat
