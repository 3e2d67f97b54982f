/- Chains of ports as data. No statement is proved here. -/
import Derived.Test.YtbicifcgghmhaaaGreatZU10
namespace Go.Proofs.YtbicifcgghmhaaaGreat
open Go.ChangeShapes Go.WideShapes Go.ChangeAt Go.RowKit
open List renaming append_assoc → kc9, append_nil → ke2, drop → ka3, drop_drop → ke4, getD_eq_getElem?_getD → ka6, getElem?_drop → ke3, getElem?_eq_getElem → ka7, getElem?_map → ke6, length → ka0, length_append → ka8, map_append → kg0, mem_of_getElem? → ke1, range → kd0, range_succ → kj3
open Nat renaming zero_le → kd7
set_option linter.unusedVariables false
set_option linter.unusedSimpArgs false
/-! chapter 12: ports as data, lists of lists of boxes -/
structure Pt where
  bs : List Bx
  cv : Int
def pt0 : Pt := ⟨[], 0⟩
def dW (b : List Bx) (c : Int) : Pt := ⟨b, c⟩
def ptR (p : Pt) : List D := [D.sl (kN p.bs) p.bs.length, D.lit (.int .i64 p.cv)]
def qN : List Pt → List D
  | [] => []
  | p :: r => ptR p ++ qN r
theorem qS : ∀ xs : List Pt, ka0 (qN xs) = ka0 xs * 2
  | [] => rfl
  | b :: r => by show ka0 (ptR b ++ qN r) = (ka0 r + 1) * 2; rw [ka8, qS r]; show 2 + _ = _; omega
theorem k1p : ∀ a b : List Pt, qN (a ++ b) = qN a ++ qN b
  | [], _ => rfl
  | l :: r, b => by show ptR l ++ qN (r ++ b) = ptR l ++ qN r ++ qN b; rw [k1p r b, kc9]
theorem hZ : ∀ (i : Nat) (xs : List Pt), ka3 (i * 2) (qN xs) = qN (ka3 i xs)
  | 0, _ => rfl
  | i + 1, [] => by simp [qN]
  | i + 1, l :: r => by
    show ka3 ((i + 1) * 2) (ptR l ++ qN r) = qN (ka3 i r)
    rw [show (i + 1) * 2 = 2 + i * 2 by omega, ← ke4, ← hZ i r]; rfl
def rR (xs : List Pt) (i : Nat) : Pt := List.getD xs i pt0
def kR (xs : List Pt) (i : Nat) : List Bx := (rR xs i).bs
def uG (xs : List Pt) (i : Nat) : Int := (rR xs i).cv
theorem rQ {xs : List Pt} {i : Nat} (h : i < ka0 xs) : qN (ka3 i xs) = ptR (rR xs i) ++ qN (ka3 (i + 1) xs) := by
  have e : rR xs i = xs[i] := by unfold rR; rw [ka6, ka7 h]; rfl
  rw [List.drop_eq_getElem_cons h, e]; rfl
theorem u4p {xs : List Pt} {i : Nat} (h : i < ka0 xs) : List.take 2 (ka3 (i * 2) (qN xs)) = [D.sl (kN (kR xs i)) (ka0 (kR xs i)), D.lit (.int .i64 (uG xs i))] := by
  rw [hZ, rQ h]; rfl
theorem wE {xs : List Pt} {i : Nat} (h : i < ka0 xs) : (ka3 (i * 2) (qN xs))[0]? = some (D.sl (kN (kR xs i)) (ka0 (kR xs i))) := by
  rw [hZ, rQ h]; rfl
theorem u7g {xs : List Pt} {i : Nat} (h : i < ka0 xs) : (ka3 (i * 2 + 1) (qN xs))[0]? = some (D.lit (.int .i64 (uG xs i))) := by
  rw [← ke4, hZ, rQ h]; rfl
theorem u1r (xs : List Pt) (b : List Bx) (n : Nat) (c : Int) (h : b.length = n) : qN xs ++ [D.sl (kN b) n, D.lit (.int .i64 c)] = qN (xs ++ [dW b c]) := by
  subst h; rw [k1p]; rfl
def PsW (xs : List Pt) : Prop := ∀ p ∈ xs, BsW p.bs ∧ ka0 p.bs ≤ 1000
theorem PsW.get {xs : List Pt} (h : PsW xs) (i : Nat) : BsW (kR xs i) ∧ ka0 (kR xs i) ≤ 1000 := by
  unfold kR rR
  rw [ka6]
  cases e : xs[i]? with
  | none => exact ⟨BsW.nil, kd7 _⟩
  | some l => exact h l (ke1 e)
theorem PsW.nil : PsW [] := fun l h => by cases h
theorem PsW.take {xs : List Pt} (h : PsW xs) (n : Nat) : PsW (List.take n xs) := fun m hm => h m (List.mem_of_mem_take hm)
theorem PsW.app {xs ys : List Pt} (h : PsW xs) (h2 : PsW ys) : PsW (xs ++ ys) := fun m hm => (List.mem_append.1 hm).elim (h m) (h2 m)
theorem PsW.one {b : List Bx} {c : Int} (h : BsW b) (h2 : ka0 b ≤ 1000) : PsW [dW b c] := fun m hm => by rw [List.mem_singleton.1 hm]; exact ⟨h, h2⟩
def aF (xs : List (List Bx)) : List D := xs.map fun l => D.sl (kN l) l.length
theorem qV (xs : List (List Bx)) : ka0 (aF xs) = ka0 xs := by unfold aF; simp
theorem u3i (xs : List (List Bx)) (l : List Bx) (n : Nat) (h : l.length = n) : aF xs ++ [D.sl (kN l) n] = aF (xs ++ [l]) := by subst h; unfold aF; simp
def eB (xs : List (List Bx)) (i : Nat) : List Bx := List.getD xs i []
theorem u04 (xs : List (List Bx)) (i : Nat) (h : i < xs.length) : (ka3 i (aF xs))[0]? = some (D.sl (kN (eB xs i)) (ka0 (eB xs i))) := by
  unfold aF eB
  rw [ke3, Nat.add_zero, ke6, ka7 h, ka6, ka7 h]; rfl
theorem u3h (xs : List (List Bx)) (i : Nat) (h : i < xs.length) : (aF xs)[i]? = some (D.sl (kN (eB xs i)) (ka0 (eB xs i))) := by
  rw [← u04 xs i h, ke3, Nat.add_zero]
def BzW (xs : List (List Bx)) : Prop := ∀ l ∈ xs, BsW l ∧ ka0 l ≤ 64
theorem BzW.get {xs : List (List Bx)} (h : BzW xs) (i : Nat) : BsW (eB xs i) ∧ ka0 (eB xs i) ≤ 64 := by
  unfold eB; rw [ka6]
  cases e : xs[i]? with
  | none => exact ⟨BsW.nil, kd7 _⟩
  | some l => exact h l (ke1 e)
theorem BzW.nil : BzW [] := fun l h => by cases h
theorem BzW.snoc {xs : List (List Bx)} {l : List Bx} (h : BzW xs) (h2 : BsW l) (h3 : ka0 l ≤ 64) : BzW (xs ++ [l]) := fun m hm => (List.mem_append.1 hm).elim (h m) fun hm => by
  rw [List.mem_singleton.1 hm]; exact ⟨h2, h3⟩
def t5 (b : List Bx) (c : Int) : Bool := decide (ka0 b ≤ 8 ∧ 0 ≤ c ∧ c ≤ 15) && cF b
theorem u9q {b : List Bx} {c : Int} (h : ka0 b ≤ 8 ∧ 0 ≤ c ∧ c ≤ 15) (h2 : cF b = true) : t5 b c = true := by unfold t5; rw [decide_eq_true h, h2]; rfl
theorem u6t {b : List Bx} {c : Int} (h : ¬ (ka0 b ≤ 8 ∧ 0 ≤ c ∧ c ≤ 15)) : t5 b c = false := by unfold t5; rw [decide_eq_false h]; rfl
theorem v46 {b : List Bx} {c : Int} (h2 : cF b = false) : t5 b c = false := by unfold t5; rw [h2, Bool.and_false]
def vpE (xs : List Pt) (i : Nat) : Bool := t5 (kR xs i) (uG xs i)
def nvB (b : List Bx) (c : Int) : Bool := !(t5 b c)
theorem v1d {b : List Bx} {c : Int} (h : t5 b c = false) : nvB b c = true := by unfold nvB; rw [h]; rfl
theorem v57 {b : List Bx} {c : Int} (h : t5 b c = true) : nvB b c = false := by unfold nvB; rw [h]; rfl
def zG (xs : List Pt) : Nat → Int := gY fun j => nvB (kR xs j) (uG xs j)
theorem v1e {xs : List Pt} {k : Nat} (h : zG xs k = -1) (h2 : nvB (kR xs k) (uG xs k) = false) : zG xs (k + 1) = -1 := b8 h h2
theorem v1f {xs : List Pt} {k : Nat} (h : zG xs k = -1) (h2 : nvB (kR xs k) (uG xs k) = true) {n : Nat} (hn : k < n) : zG xs n = (k : Int) := d5 h h2 n hn
def cS (xs : List Pt) : Bool := decide (1 ≤ xs.length ∧ xs.length ≤ 16 ∧ ∀ i, i < xs.length → vpE xs i = true)
def nvA (xs : List Pt) : Bool := decide (∃ i, i < xs.length ∧ vpE xs i = false)
theorem v1g {xs : List Pt} {n : Nat} (hn : xs.length = n) (h : 0 ≤ zG xs n) : nvA xs = true := by
  obtain ⟨k, hk, h1⟩ := pM h
  exact decide_eq_true ⟨k, by omega, by simpa [nvB, vpE] using h1⟩
theorem v1h {xs : List Pt} {n : Nat} (hn : xs.length = n) (h : ¬ 0 ≤ zG xs n) : nvA xs = false := decide_eq_false fun ⟨k, hk, e⟩ => by
  have h1 := jW h k (by omega)
  have h1 : nvB (kR xs k) (uG xs k) = false := h1
  rw [v1d e] at h1; cases h1
theorem v2q {xs : List Pt} (h : 1 ≤ xs.length ∧ xs.length ≤ 16) (h2 : nvA xs = false) : cS xs = true := decide_eq_true ⟨h.1, h.2, fun i hi => by
  cases e : vpE xs i with
  | true => rfl
  | false => exact absurd ⟨i, hi, e⟩ (of_decide_eq_false h2)⟩
theorem u5s {xs : List Pt} (h : ¬ (1 ≤ xs.length ∧ xs.length ≤ 16)) : cS xs = false := decide_eq_false fun e => h ⟨e.1, e.2.1⟩
theorem v2r {xs : List Pt} (h : nvA xs = true) : cS xs = false := decide_eq_false fun e => by
  obtain ⟨i, hi, h1⟩ := of_decide_eq_true h
  rw [e.2.2 i hi] at h1; cases h1
theorem k2u {xs : List Pt} (h : cS xs = true) : 1 ≤ xs.length ∧ xs.length ≤ 16 := ⟨(of_decide_eq_true h).1, (of_decide_eq_true h).2.1⟩
/-! what is reached -/
def mzB (d : Int) (xs ys : List Bx) (i j : Nat) : Bx := kE (zK d (kQ ys j) (kQ xs i)) (zL d 2 (kY ys j) (kY xs i)) (zN d 2 (kV ys j) (kV xs i)) (zM d 4 (kT ys j) (kT xs i)) (zL d 8 (kX ys j) (kX xs i)) (zN d 8 (kU ys j) (kU xs i))
def lV (d : Int) (xs ys : List Bx) (i j : Nat) : List Bx := yE [bxP xs i] [mzB d xs ys i j]
def mxE (d : Int) (xs ys : List Bx) (i j : Nat) : Int := eN [bxP xs i] [mzB d xs ys i j]
def rjL (d : Int) (xs ys : List Bx) (i : Nat) (o : List Bx) : Nat → List Bx
  | 0 => o
  | j + 1 => rjL d xs ys i o j ++ lV d xs ys i j
def n9 (d : Int) (xs ys : List Bx) : Nat → List Bx
  | 0 => []
  | i + 1 => rjL d xs ys i (n9 d xs ys i) (ka0 ys)
def rjB (d : Int) (xs ys : List Bx) (i : Nat) (b : Bool) : Nat → Bool
  | 0 => b
  | j + 1 => rjB d xs ys i b j && decide (mxE d xs ys i j = 0 ∧ ka0 (rjL d xs ys i (n9 d xs ys i) j) + ka0 (lV d xs ys i j) ≤ 64)
def riB (d : Int) (xs ys : List Bx) : Nat → Bool
  | 0 => true
  | i + 1 => rjB d xs ys i (riB d xs ys i) (ka0 ys)
theorem k1k (d : Int) (xs ys : List Bx) (i : Nat) (b : Bool) (j : Nat) : ∀ k, rjB d xs ys i b j = false → rjB d xs ys i b (j + k) = false
  | 0, h => h
  | k + 1, h => by
    show (rjB d xs ys i b (j + k) && _) = false
    rw [k1k d xs ys i b j k h]; rfl
theorem v0l (d : Int) (xs ys : List Bx) (i : Nat) : ∀ k, rjB d xs ys i false k = false
  | 0 => rfl
  | k + 1 => by
    show (rjB d xs ys i false k && _) = false
    rw [v0l d xs ys i k]; rfl
theorem k1l (d : Int) (xs ys : List Bx) (i : Nat) : ∀ k, riB d xs ys i = false → riB d xs ys (i + k) = false
  | 0, h => h
  | k + 1, h => by
    show rjB d xs ys (i + k) (riB d xs ys (i + k)) _ = false
    rw [k1l d xs ys i k h]; exact v0l ..
def RI (d : Int) (xs ys : List Bx) (i : Nat) (o : List Bx) : Prop := n9 d xs ys i = o ∧ riB d xs ys i = true
def RJ (d : Int) (xs ys : List Bx) (i j : Nat) (o : List Bx) : Prop := rjL d xs ys i (n9 d xs ys i) j = o ∧ rjB d xs ys i (riB d xs ys i) j = true
theorem RI.zero (d : Int) (xs ys : List Bx) : RI d xs ys 0 [] := ⟨rfl, rfl⟩
theorem RI.in {d : Int} {xs ys : List Bx} {i : Nat} {o : List Bx} (h : RI d xs ys i o) : RJ d xs ys i 0 o := h
theorem RJ.out {d : Int} {xs ys : List Bx} {i j : Nat} {o : List Bx} (h : RJ d xs ys i j o) (hj : j = ka0 ys) : RI d xs ys (i + 1) o := by subst hj; exact h
theorem RJ.y {d : Int} {xs ys : List Bx} {i j : Nat} {o : List Bx} (h : RJ d xs ys i j o) (h1 : mxE d xs ys i j = 0) (h2 : ka0 o + ka0 (lV d xs ys i j) ≤ 64) : RJ d xs ys i (j + 1) (o ++ lV d xs ys i j) := by
  refine ⟨?_, ?_⟩
  · show rjL d xs ys i (n9 d xs ys i) j ++ _ = _
    rw [h.1]
  · show (rjB d xs ys i (riB d xs ys i) j && decide _) = true
    rw [h.2, decide_eq_true ⟨h1, by rw [h.1]; exact h2⟩]; rfl
def cB (d : Int) (xs ys : List Bx) : List Bx := if riB d xs ys (ka0 xs) = true then bD (n9 d xs ys (ka0 xs)) else []
def jC (d : Int) (xs ys : List Bx) : Int := if riB d xs ys (ka0 xs) = true then jB (n9 d xs ys (ka0 xs)) else 3
theorem v4o {d : Int} {xs ys o : List Bx} {i : Nat} (h : RI d xs ys i o) (hi : i = ka0 xs) : cB d xs ys = bD o ∧ jC d xs ys = jB o := by
  subst hi; unfold cB jC; rw [h.1, h.2]; exact ⟨rfl, rfl⟩
theorem v4p {d : Int} {xs ys o : List Bx} {i j : Nat} (h : RJ d xs ys i j o) (hi : i < ka0 xs) (hj : j < ka0 ys) (h1 : ¬ (mxE d xs ys i j = 0 ∧ ka0 o + ka0 (lV d xs ys i j) ≤ 64)) : cB d xs ys = [] ∧ jC d xs ys = 3 := by
  have a1 : rjB d xs ys i (riB d xs ys i) (j + 1) = false := by
    show (_ && decide _) = false
    rw [decide_eq_false (by rw [h.1]; exact h1), Bool.and_false]
  have a2 := k1k d xs ys i (riB d xs ys i) (j + 1) (ka0 ys - (j + 1)) a1
  rw [show j + 1 + (ka0 ys - (j + 1)) = ka0 ys by omega] at a2
  have a3 := k1l d xs ys (i + 1) (ka0 xs - (i + 1)) a2
  rw [show i + 1 + (ka0 xs - (i + 1)) = ka0 xs by omega] at a3
  unfold cB jC; rw [a3]; exact ⟨rfl, rfl⟩
/-! chapter 12: what is shared, what is blamed, what is reached -/
def f5 (a b : Int) : Int := qF .or .i64 a b
def oP (d b w : Int) : Int := if b = 0 then f5 d w else d
theorem u1w {d b w : Int} (h : b = 0) : f5 d w = oP d b w := (if_pos h).symm
theorem u1x {d b w : Int} (h : ¬ b = 0) : d = oP d b w := (if_neg h).symm
def seV (e : Int) (k : Int) (r : List Int) (rn : Nat) (m : List (List Int)) (s : List Int) (sn : Nat) (k2 : Int) (r2 : List Int) (rn2 : Nat) (m2 : List (List Int)) (s2 : List Int) (sn2 : Nat) : Int := vR [kE k r rn m s sn] [kE (zK e k2 k) (zL e 2 r2 r) (zN e 2 rn2 rn) (zM e 4 m2 m) (zL e 8 s2 s) (zN e 8 sn2 sn)]
def aO (d : Int) (k : Int) (r : List Int) (rn : Nat) (m : List (List Int)) (s : List Int) (sn : Nat) (k2 : Int) (r2 : List Int) (rn2 : Nat) (m2 : List (List Int)) (s2 : List Int) (sn2 : Nat) : Nat → Int
  | 0 => d
  | 1 => oP d (seV 14 k r rn m s sn k2 r2 rn2 m2 s2 sn2) 1
  | 2 => oP (oP d (seV 14 k r rn m s sn k2 r2 rn2 m2 s2 sn2) 1) (seV 13 k r rn m s sn k2 r2 rn2 m2 s2 sn2) 2
  | 3 => oP (oP (oP d (seV 14 k r rn m s sn k2 r2 rn2 m2 s2 sn2) 1) (seV 13 k r rn m s sn k2 r2 rn2 m2 s2 sn2) 2) (seV 11 k r rn m s sn k2 r2 rn2 m2 s2 sn2) 4
  | _ => oP (oP (oP (oP d (seV 14 k r rn m s sn k2 r2 rn2 m2 s2 sn2) 1) (seV 13 k r rn m s sn k2 r2 rn2 m2 s2 sn2) 2) (seV 11 k r rn m s sn k2 r2 rn2 m2 s2 sn2) 4) (seV 7 k r rn m s sn k2 r2 rn2 m2 s2 sn2) 8
def shW (d : Int) (xs ys : List Bx) (i j : Nat) : Int := aO d (kQ xs i) (kY xs i) (kV xs i) (kT xs i) (kX xs i) (kU xs i) (kQ ys j) (kY ys j) (kV ys j) (kT ys j) (kX ys j) (kU ys j) 4
def lO (d : Int) (xs ys : List Bx) : Nat → List Int
  | 0 => []
  | i + 1 => lO d xs ys i ++ (kd0 (ka0 ys)).map (shW d xs ys i)
def bpJ (d : Int) (xs ys : List Bx) (i j : Nat) : List Int := lO d xs ys i ++ (kd0 j).map (shW d xs ys i)
theorem v2z {d : Int} {xs ys : List Bx} {i : Nat} {o : List Int} (h : lO d xs ys i = o) : bpJ d xs ys i 0 = o := by
  unfold bpJ; rw [h]; exact ke2 _
theorem v2x {d : Int} {xs ys : List Bx} {i j : Nat} {o : List Int} {x : Int} (h : bpJ d xs ys i j = o) (hx : x = shW d xs ys i j) : bpJ d xs ys i (j + 1) = o ++ [x] := by
  subst h; subst hx
  unfold bpJ; rw [kj3, kg0, kc9]; rfl
theorem v2y {d : Int} {xs ys : List Bx} {i j : Nat} {o : List Int} (h : bpJ d xs ys i j = o) (hj : j = ka0 ys) : lO d xs ys (i + 1) = o := by
  subst hj; exact h
def blM (l : List Int) (n : Nat) : Nat → Int
  | 0 => 15
  | i + 1 => if jD l n (14 - (i : Int)) = false ∧ uB (14 - (i : Int)) ≤ uB (blM l n i) then 14 - (i : Int) else blM l n i
theorem v68 {l : List Int} {n i : Nat} {y x : Int} (h : blM l n i = y) (h2 : jD l n (14 - (i : Int)) = false) (h3 : uB (14 - (i : Int)) ≤ uB y) (hx : x = 14 - (i : Int)) : blM l n (i + 1) = x := by
  subst h; rw [hx]; exact if_pos ⟨h2, h3⟩
theorem v6a {l : List Int} {n i : Nat} {y : Int} (h : blM l n i = y) (h2 : jD l n (14 - (i : Int)) = true) : blM l n (i + 1) = y := by
  subst h; exact if_neg fun e => by rw [h2] at e; cases e.1
theorem v69 {l : List Int} {n i : Nat} {y : Int} (h : blM l n i = y) (h3 : ¬ uB (14 - (i : Int)) ≤ uB y) : blM l n (i + 1) = y := by
  subst h; exact if_neg fun e => h3 e.2
theorem u3l (l : List Int) (n : Nat) (hn : 1 ≤ n) : ∀ i, blM l n i = bI l n i
  | 0 => rfl
  | i + 1 => by
    rw [blM, bI, u3l l n hn i]
    by_cases e : jD l n (14 - (i : Int)) = false ∧ uB (14 - (i : Int)) ≤ uB (bI l n i)
    · rw [if_pos e, if_pos ⟨hn, e⟩]
    · rw [if_neg e, if_neg fun e2 => e e2.2]
def tB (d : Int) (xs ys : List Bx) : Int := if ka0 xs = 0 then 15 else blM (lO d xs ys (ka0 xs)) (ka0 (lO d xs ys (ka0 xs))) 14
theorem v6c {d : Int} {xs ys : List Bx} (h : ka0 xs = 0) : 15 = tB d xs ys := (if_pos h).symm
theorem v6b {d : Int} {xs ys : List Bx} {o : List Int} {i n z : Nat} {y : Int} (h : ¬ ka0 xs = 0) (ho : lO d xs ys i = o) (hi : i = ka0 xs) (hn : ka0 o = n) (hy : blM o n z = y) (hz : z = 14) : y = tB d xs ys := by
  subst hi; subst hn; subst hz; unfold tB; rw [if_neg h, ho, hy]
theorem u4k {d : Int} {xs ys : List Bx} (h : BsW xs) (i : Nat) {o : List Bx} (ho : BsW o) : ∀ j, BsW (rjL d xs ys i o j)
  | 0 => ho
  | j + 1 => (u4k h i ho j).app (u4y (BsW.one (h.box i)))
theorem u4l {d : Int} {xs ys : List Bx} (h : BsW xs) : ∀ i, BsW (n9 d xs ys i)
  | 0 => BsW.nil
  | i + 1 => u4k h i (u4l h i) _
theorem v0r {xs ys : List Bx} (h : BsW xs) (_ : BsW ys) (d : Int) : BsW (cB d xs ys) := by
  unfold cB; split
  · exact k5y (u4l h _)
  · exact BsW.nil
theorem k60 (d : Int) (xs ys : List Bx) : ka0 (cB d xs ys) ≤ 64 := by
  unfold cB; split
  · exact k03 _
  · exact kd7 _
theorem k1o (d : Int) (xs ys : List Bx) : 0 ≤ jC d xs ys ∧ jC d xs ys ≤ 3 := by
  have := hY (n9 d xs ys (ka0 xs))
  unfold jC; split <;> omega
def u1 (ps : List Pt) : Nat → List Bx
  | 0 => bD (kR ps 0)
  | i + 1 => cB (uG ps i) (kR ps (i + 1)) (u1 ps i)
def fwE (ps : List Pt) : Nat → Int
  | 0 => 0
  | i + 1 => jC (uG ps i) (kR ps (i + 1)) (u1 ps i)
def fwB (ps : List Pt) : Nat → Int
  | 0 => 15
  | i + 1 => tB (uG ps i) (kR ps (i + 1)) (u1 ps i)
theorem k2j {ps : List Pt} (h : PsW ps) : ∀ i, BsW (u1 ps i)
  | 0 => k5y (h.get 0).1
  | i + 1 => v0r (h.get _).1 (k2j h i) _
theorem k7z (ps : List Pt) : ∀ i, ka0 (u1 ps i) ≤ 64
  | 0 => k03 _
  | i + 1 => k60 _ _ _
def gF (ps : List Pt) (n : Nat) : List (List Bx) := (kd0 n).map (u1 ps)
theorem q6 (ps : List Pt) (n : Nat) : ka0 (gF ps n) = n := by unfold gF; rw [List.length_map, List.length_range]
theorem v2c (ps : List Pt) (n : Nat) : gF ps (n + 1) = gF ps n ++ [u1 ps n] := by unfold gF; rw [kj3, kg0]; rfl
theorem u58 {ps : List Pt} {n i : Nat} (h : i < n) : eB (gF ps n) i = u1 ps i := by
  unfold eB gF
  rw [ka6, ke6, List.getElem?_range h]; rfl
theorem k2i {ps : List Pt} {n i : Nat} (h : i < n) : (aF (gF ps n))[i]? = some (D.sl (kN (u1 ps i)) (ka0 (u1 ps i))) := by
  rw [u3h _ _ (by rw [q6]; exact h), u58 h]
theorem v2d {ps : List Pt} (h : PsW ps) (n : Nat) : BzW (gF ps n) := fun l hl => by
  obtain ⟨i, _, rfl⟩ := List.mem_map.1 hl
  exact ⟨k2j h i, k7z ps i⟩
def mL (ps : List Pt) (j : Nat) : Bool := decide (¬ fwE ps j = 0 ∨ ka0 (u1 ps j) = 0)
def lD (ps : List Pt) : Nat → Int := gY (mL ps)
theorem u9p {ps : List Pt} {j : Nat} (h : fwE ps j = 0) (h2 : ¬ ka0 (u1 ps j) = 0) : mL ps j = false := decide_eq_false fun e => e.elim (fun a => a h) h2
theorem u9o {ps : List Pt} {j : Nat} (h : ¬ fwE ps j = 0 ∨ ka0 (u1 ps j) = 0) : mL ps j = true := decide_eq_true h
def fwX (ps : List Pt) : Nat := (lD ps (ka0 ps)).toNat
def fwO (ps : List Pt) : Bool := cS ps && decide (lD ps (ka0 ps) < 0)
def uN (ps : List Pt) : List (List Bx) := if fwO ps = true then gF ps (ka0 ps) else []
def uX (ps : List Pt) : Int := if cS ps = true then (if lD ps (ka0 ps) < 0 then 0 else if fwE ps (fwX ps) = 0 then 13 else fwE ps (fwX ps)) else 1
def aY (ps : List Pt) : Int := if uX ps = 13 then (fwX ps : Int) else 0
def aZ (ps : List Pt) : Int := if uX ps = 13 then fwB ps (fwX ps) else 0
theorem u88 {ps : List Pt} (h : cS ps = false) : uN ps = [] ∧ aY ps = 0 ∧ aZ ps = 0 ∧ uX ps = 1 := by
  have e : uX ps = 1 := by unfold uX; rw [h]; rfl
  unfold uN fwO aY aZ; rw [e, h]; exact ⟨rfl, rfl, rfl, rfl⟩
theorem u53 {ps : List Pt} {i : Nat} (h : cS ps = true) (hk : lD ps i = -1) (hi : i = ka0 ps) : uN ps = gF ps (ka0 ps) ∧ aY ps = 0 ∧ aZ ps = 0 ∧ uX ps = 0 := by
  subst hi
  have e : uX ps = 0 := by unfold uX; rw [h, hk]; rfl
  unfold uN fwO aY aZ; rw [e, h, hk]; exact ⟨rfl, rfl, rfl, rfl⟩
theorem u54 {ps : List Pt} {i : Nat} (hk : lD ps i = -1) (hi : i < ka0 ps) (hb : mL ps i = true) : lD ps (ka0 ps) = (i : Int) ∧ fwX ps = i := by
  have e : lD ps (ka0 ps) = (i : Int) := d5 hk hb _ hi
  exact ⟨e, by unfold fwX; rw [e]; rfl⟩
theorem u87 {ps : List Pt} {i : Nat} (h : cS ps = true) (hk : lD ps i = -1) (hi : i < ka0 ps) (hb : ¬ fwE ps i = 0) (hr : fwE ps i ≤ 3) : uN ps = [] ∧ aY ps = 0 ∧ aZ ps = 0 ∧ uX ps = fwE ps i := by
  obtain ⟨e1, e2⟩ := u54 hk hi (u9o (.inl hb))
  have e : uX ps = fwE ps i := by
    unfold uX; rw [h, e1, e2, if_pos rfl, if_neg (by omega), if_neg hb]
  have hne : ¬ uX ps = 13 := by rw [e]; omega
  exact ⟨by unfold uN fwO; rw [h, e1, decide_eq_false (by omega)]; rfl, if_neg hne, if_neg hne, e⟩
theorem lZ {ps : List Pt} {i : Nat} (h : cS ps = true) (hk : lD ps i = -1) (hi : i < ka0 ps) (hb : fwE ps i = 0) (h2 : ka0 (u1 ps i) = 0) : uN ps = [] ∧ aY ps = (i : Int) ∧ aZ ps = fwB ps i ∧ uX ps = 13 := by
  obtain ⟨e1, e2⟩ := u54 hk hi (u9o (.inr h2))
  have e : uX ps = 13 := by
    unfold uX; rw [h, e1, e2, if_pos rfl, if_neg (by omega), if_pos hb]
  exact ⟨by unfold uN fwO; rw [h, e1, decide_eq_false (by omega)]; rfl, by unfold aY; rw [if_pos e, e2], by unfold aZ; rw [if_pos e, e2], e⟩
theorem aI {d b : Int} {r r2 : List Int} {n n2 : Nat} (h : r.length = n * 2) (h2 : r2.length = n2 * 2) : ka0 (zL d b r r2) = zN d b n n2 * 2 := by
  unfold zL zN; split <;> assumption
theorem dE {d b : Int} {n n2 K : Nat} (h : n ≤ K) (h2 : n2 ≤ K) : zN d b n n2 ≤ K := by unfold zN; split <;> assumption
theorem n6 {d b : Int} {m m2 : List (List Int)} (h : MsW m) (h2 : MsW m2) : MsW (zM d b m m2) := by unfold zM; split <;> assumption
theorem f8 {d b : Int} {m m2 : List (List Int)} {c c2 K : Nat} (h : m.length = c) (h2 : m2.length = c2) (h3 : c ≤ K) (h4 : c2 ≤ K) : ka0 (zM d b m m2) ≤ K := by unfold zM; split <;> omega
theorem k14 {k : Int} {r : List Int} {rn : Nat} {m : List (List Int)} {s : List Int} {sn : Nat} {c : Nat} (h : r.length = rn * 2) (h2 : s.length = sn * 2) (h3 : rn ≤ 1000000) (h4 : sn ≤ 1000000) (h5 : m.length = c) (h6 : c ≤ 1000000) (h7 : MsW m) : BsW [kE k r rn m s sn] := BsW.one ⟨h, h2, h3, h4, by show m.length ≤ _; omega, h7⟩
theorem RJ.y2 {d : Int} {xs ys : List Bx} {i j p : Nat} {o : List Bx} (h : RJ d xs ys i j o) (h1 : mxE d xs ys i j = 0) (hp : o.length = p) (h2 : ¬ 64 < (p : Int) + ((ka0 (lV d xs ys i j) : Nat) : Int)) : RJ d xs ys i (j + 1) (o ++ lV d xs ys i j) := h.y h1 (by omega)
theorem u4n {d : Int} {xs ys o : List Bx} {i j p : Nat} (h : RJ d xs ys i j o) (hi : i < ka0 xs) (hj : j < ka0 ys) (hp : o.length = p) (h1 : ¬ mxE d xs ys i j = 0 ∨ 64 < (p : Int) + ((ka0 (lV d xs ys i j) : Nat) : Int)) : cB d xs ys = [] ∧ jC d xs ys = 3 := v4p h hi hj (by omega)
theorem k6u {d : Int} {xs ys : List Bx} (h : BsW xs) (i j : Nat) : BsW (lV d xs ys i j) := u4y (BsW.one (h.box i))
def agL (d : Int) (xs ys : List Bx) : Nat → List Bx
  | 0 => []
  | i + 1 => agL d xs ys i ++ ((kd0 (ka0 xs)).map fun j => lV d xs ys j i).flatten
def agJ (d : Int) (xs ys : List Bx) (i j : Nat) : List Bx := agL d xs ys i ++ ((kd0 j).map fun j => lV d xs ys j i).flatten
def oN (d : Int) (xs ys : List Bx) : List Bx := agL d xs ys (ka0 ys)
theorem u0o {d : Int} {xs ys : List Bx} {i : Nat} {o : List Bx} (h : agL d xs ys i = o) : agJ d xs ys i 0 = o := by
  unfold agJ; rw [h]; exact ke2 _
theorem u0m {d : Int} {xs ys : List Bx} {i j : Nat} {o : List Bx} (h : agJ d xs ys i j = o) : agJ d xs ys i (j + 1) = o ++ lV d xs ys j i := by
  subst h; unfold agJ
  rw [kj3, kg0, List.flatten_append, kc9]
  show _ ++ (_ ++ (lV d xs ys j i ++ [])) = _
  rw [ke2]
theorem u68 {d : Int} {xs ys : List Bx} {i j : Nat} {o : List Bx} (h : agJ d xs ys i j = o) (hj : j = ka0 xs) : agL d xs ys (i + 1) = o := by
  subst hj; exact h
theorem u0n {d : Int} {xs ys : List Bx} {i : Nat} : ∀ j, ka0 (agJ d xs ys i j) ≤ ka0 (agL d xs ys i) + j * 64
  | 0 => by rw [u0o rfl]; omega
  | j + 1 => by
    have h1 := u0n (d := d) (xs := xs) (ys := ys) (i := i) j
    have h2 : ka0 (lV d xs ys j i) ≤ 64 := sL _ _
    rw [u0m rfl, ka8]; omega
theorem u0l {d : Int} {xs ys : List Bx} {n : Nat} (h : n ≤ 64) (hn : ka0 xs = n) (h2 : ka0 ys ≤ 1) : ka0 (oN d xs ys) ≤ 4096 := by
  unfold oN
  match h3 : ka0 ys, h2 with
  | 0, _ => exact kd7 _
  | 1, _ =>
    have := u0n (d := d) (xs := xs) (ys := ys) (i := 0) (ka0 xs)
    have h4 : ka0 (agL d xs ys 0) = 0 := rfl
    show ka0 (agJ d xs ys 0 (ka0 xs)) ≤ _
    omega
theorem u56 {ps : List Pt} (h : PsW ps) : BzW (uN ps) := by
  unfold uN; split
  · exact v2d h _
  · exact BzW.nil
theorem v44 {ps : List Pt} {j : Nat} (h : ¬ fwE ps j ≠ 0) (h2 : ¬ ((ka0 (u1 ps j) : Nat) : Int) = 0) : mL ps j = false := u9p (Decidable.of_not_not h) (by omega)
theorem v45 {ps : List Pt} (h2 : ¬ ((ka0 (u1 ps 0) : Nat) : Int) = 0) : lD ps 1 = -1 := b8 (p := mL ps) (k := 0) rfl (u9p rfl (by omega))
theorem k7y {ps : List Pt} (h : cS ps = true) (h2 : ((ka0 (u1 ps 0) : Nat) : Int) = 0) : uN ps = [] ∧ aY ps = 0 ∧ aZ ps = 15 ∧ uX ps = 13 := lZ (i := 0) h rfl (k2u h).1 rfl (by omega)
theorem k7x {ps : List Pt} {i : Nat} (h : cS ps = true) (hk : lD ps (i + 1) = -1) (hi : i + 1 < ka0 ps) (hb : ¬ fwE ps (i + 1) ≠ 0) (h2 : ((ka0 (u1 ps (i + 1)) : Nat) : Int) = 0) : uN ps = [] ∧ aY ps = ((i : Nat) : Int) + 1 ∧ aZ ps = tB (uG ps i) (kR ps (i + 1)) (u1 ps i) ∧ uX ps = 13 := lZ (i := i + 1) h hk hi (Decidable.of_not_not hb) (by omega)
theorem u3s (a : Int) : zS (kE 4 [a, a] 1 [[3]] [64, 64] 1) := ⟨rfl, rfl, (by decide : 1 ≤ 1000000), (by decide : 1 ≤ 1000000), (by decide : 1 ≤ 1000000), fun l hl => by rw [List.mem_singleton.1 hl]; exact (by decide : 1 ≤ 1000000)⟩
theorem u4q {x y : Bx} {d e : Int} (hx : zS x) (hy : zS y) : PsW [dW [x] d, dW [y] e] := fun p hp => by
  rcases List.mem_cons.1 hp with rfl | hp
  · exact ⟨BsW.one hx, (by decide : 1 ≤ 1000)⟩
  · rw [List.mem_singleton.1 hp]; exact ⟨BsW.one hy, (by decide : 1 ≤ 1000)⟩
end Go.Proofs.YtbicifcgghmhaaaGreat
