/- Chains of ports as data. No statement is proved here. -/
import Derived.Test.YtbicifcgghmhaaaGreatZU10
namespace Go.Proofs.YtbicifcgghmhaaaGreat
open Go.ChangeShapes Go.WideShapes Go.ChangeAt Go.RowKit
open List renaming append_assoc → kd2, append_nil → kd6, drop → ka3, drop_drop → kc8, getD_eq_getElem?_getD → ka7, getElem?_drop → ke4, getElem?_eq_getElem → ka8, getElem?_map → ke7, length → ka0, length_append → ka6, map_append → kg1, mem_of_getElem? → ke3, range → kd3, range_succ → kj3, take → ka5
open Nat renaming zero_le → ke2
set_option linter.unusedVariables false
set_option linter.unusedSimpArgs false
/-! chapter 12: ports as data, lists of lists of boxes -/
structure Pt where
  bs : List Bx
  cv : Int
def pt0 : Pt := ⟨[], 0⟩
def hZ (b : List Bx) (c : Int) : Pt := ⟨b, c⟩
def ptR (p : Pt) : List D := [D.sl (kV p.bs) p.bs.length, D.lit (.int .i64 p.cv)]
def uG : List Pt → List D
  | [] => []
  | p :: r => ptR p ++ uG r
theorem q6 : ∀ xs : List Pt, ka0 (uG xs) = ka0 xs * 2
  | [] => rfl
  | b :: r => by show ka0 (ptR b ++ uG r) = (ka0 r + 1) * 2; rw [ka6, q6 r]; show 2 + _ = _; omega
theorem k27 : ∀ a b : List Pt, uG (a ++ b) = uG a ++ uG b
  | [], _ => rfl
  | l :: r, b => by show ptR l ++ uG (r ++ b) = ptR l ++ uG r ++ uG b; rw [k27 r b, kd2]
theorem iU : ∀ (i : Nat) (xs : List Pt), ka3 (i * 2) (uG xs) = uG (ka3 i xs)
  | 0, _ => rfl
  | i + 1, [] => by simp [uG]
  | i + 1, l :: r => by
    show ka3 ((i + 1) * 2) (ptR l ++ uG r) = uG (ka3 i r)
    rw [show (i + 1) * 2 = 2 + i * 2 by omega, ← kc8, ← iU i r]; rfl
theorem cV : ∀ (i : Nat) (xs : List Pt), ka5 (i * 2) (uG xs) = uG (ka5 i xs)
  | 0, _ => rfl
  | i + 1, [] => by simp [uG]
  | i + 1, l :: r => by
    show ka5 ((i + 1) * 2) (ptR l ++ uG r) = ptR l ++ uG (ka5 i r)
    rw [← cV i r, show (i + 1) * 2 = ka0 (ptR l) + i * 2 by show _ = 2 + _; omega, List.take_length_add_append]
def l8 (xs : List Pt) (i : Nat) : Pt := List.getD xs i pt0
def uK (xs : List Pt) (i : Nat) : List Bx := (l8 xs i).bs
def q7 (xs : List Pt) (i : Nat) : Int := (l8 xs i).cv
theorem sI {xs : List Pt} {i : Nat} (h : i < ka0 xs) : uG (ka3 i xs) = ptR (l8 xs i) ++ uG (ka3 (i + 1) xs) := by
  have e : l8 xs i = xs[i] := by unfold l8; rw [ka7, ka8 h]; rfl
  rw [List.drop_eq_getElem_cons h, e]; rfl
theorem u3v {xs : List Pt} {i : Nat} (h : i < ka0 xs) : ka5 2 (ka3 (i * 2) (uG xs)) = [D.sl (kV (uK xs i)) (ka0 (uK xs i)), D.lit (.int .i64 (q7 xs i))] := by
  rw [iU, sI h]; rfl
theorem oX {xs : List Pt} {i : Nat} (h : i < ka0 xs) : (ka3 (i * 2) (uG xs))[0]? = some (D.sl (kV (uK xs i)) (ka0 (uK xs i))) := by
  rw [iU, sI h]; rfl
theorem w9 {xs : List Pt} {i : Nat} (h : i < ka0 xs) : (ka3 (i * 2 + 1) (uG xs))[0]? = some (D.lit (.int .i64 (q7 xs i))) := by
  rw [← kc8, iU, sI h]; rfl
theorem u17 (xs : List Pt) (b : List Bx) (n : Nat) (c : Int) (h : b.length = n) : uG xs ++ [D.sl (kV b) n, D.lit (.int .i64 c)] = uG (xs ++ [hZ b c]) := by
  subst h; rw [k27]; rfl
def PsW (xs : List Pt) : Prop := ∀ p ∈ xs, BsW p.bs ∧ ka0 p.bs ≤ 1000
theorem PsW.get {xs : List Pt} (h : PsW xs) (i : Nat) : BsW (uK xs i) ∧ ka0 (uK xs i) ≤ 1000 := by
  unfold uK l8
  rw [ka7]
  cases e : xs[i]? with
  | none => exact ⟨BsW.nil, ke2 _⟩
  | some l => exact h l (ke3 e)
theorem PsW.nil : PsW [] := fun l h => by cases h
theorem PsW.take {xs : List Pt} (h : PsW xs) (n : Nat) : PsW (ka5 n xs) := fun m hm => h m (List.mem_of_mem_take hm)
theorem PsW.app {xs ys : List Pt} (h : PsW xs) (h2 : PsW ys) : PsW (xs ++ ys) := fun m hm => (List.mem_append.1 hm).elim (h m) (h2 m)
theorem PsW.one {b : List Bx} {c : Int} (h : BsW b) (h2 : ka0 b ≤ 1000) : PsW [hZ b c] := fun m hm => by rw [List.mem_singleton.1 hm]; exact ⟨h, h2⟩
def aK (xs : List (List Bx)) : List D := xs.map fun l => D.sl (kV l) l.length
theorem q8 (xs : List (List Bx)) : ka0 (aK xs) = ka0 xs := by unfold aK; simp
theorem u2q (xs : List (List Bx)) (l : List Bx) (n : Nat) (h : l.length = n) : aK xs ++ [D.sl (kV l) n] = aK (xs ++ [l]) := by subst h; unfold aK; simp
def kI (xs : List (List Bx)) (i : Nat) : List Bx := List.getD xs i []
theorem k1k (xs : List (List Bx)) (i : Nat) (h : i < xs.length) : (ka3 i (aK xs))[0]? = some (D.sl (kV (kI xs i)) (ka0 (kI xs i))) := by
  unfold aK kI
  rw [ke4, Nat.add_zero, ke7, ka8 h, ka7, ka8 h]; rfl
theorem u2p (xs : List (List Bx)) (i : Nat) (h : i < xs.length) : (aK xs)[i]? = some (D.sl (kV (kI xs i)) (ka0 (kI xs i))) := by
  rw [← k1k xs i h, ke4, Nat.add_zero]
def BzW (xs : List (List Bx)) : Prop := ∀ l ∈ xs, BsW l ∧ ka0 l ≤ 64
theorem BzW.get {xs : List (List Bx)} (h : BzW xs) (i : Nat) : BsW (kI xs i) ∧ ka0 (kI xs i) ≤ 64 := by
  unfold kI; rw [ka7]
  cases e : xs[i]? with
  | none => exact ⟨BsW.nil, ke2 _⟩
  | some l => exact h l (ke3 e)
theorem BzW.nil : BzW [] := fun l h => by cases h
theorem BzW.snoc {xs : List (List Bx)} {l : List Bx} (h : BzW xs) (h2 : BsW l) (h3 : ka0 l ≤ 64) : BzW (xs ++ [l]) := fun m hm => (List.mem_append.1 hm).elim (h m) fun hm => by
  rw [List.mem_singleton.1 hm]; exact ⟨h2, h3⟩
def wS (b : List Bx) (c : Int) : Bool := decide (ka0 b ≤ 8 ∧ 0 ≤ c ∧ c ≤ 15) && dA b
theorem u93 {b : List Bx} {c : Int} (h : ka0 b ≤ 8 ∧ 0 ≤ c ∧ c ≤ 15) (h2 : dA b = true) : wS b c = true := by unfold wS; rw [decide_eq_true h, h2]; rfl
theorem v31 {b : List Bx} {c : Int} (h : ¬ (ka0 b ≤ 8 ∧ 0 ≤ c ∧ c ≤ 15)) : wS b c = false := by unfold wS; rw [decide_eq_false h]; rfl
theorem v32 {b : List Bx} {c : Int} (h2 : dA b = false) : wS b c = false := by unfold wS; rw [h2, Bool.and_false]
def vpE (xs : List Pt) (i : Nat) : Bool := wS (uK xs i) (q7 xs i)
def nvB (b : List Bx) (c : Int) : Bool := !(wS b c)
theorem u6k {b : List Bx} {c : Int} (h : wS b c = false) : nvB b c = true := by unfold nvB; rw [h]; rfl
theorem v0g {b : List Bx} {c : Int} (h : wS b c = true) : nvB b c = false := by unfold nvB; rw [h]; rfl
def nvK (xs : List Pt) : Nat → Int := jD fun j => nvB (uK xs j) (q7 xs j)
theorem v0h {xs : List Pt} {k : Nat} (h : nvK xs k = -1) (h2 : nvB (uK xs k) (q7 xs k) = false) : nvK xs (k + 1) = -1 := cF h h2
theorem u41 {xs : List Pt} {k : Nat} (h : nvK xs k = -1) (h2 : nvB (uK xs k) (q7 xs k) = true) {n : Nat} (hn : k < n) : nvK xs n = (k : Int) := eX h h2 n hn
def dW (xs : List Pt) : Bool := decide (1 ≤ xs.length ∧ xs.length ≤ 16 ∧ ∀ i, i < xs.length → vpE xs i = true)
def nvA (xs : List Pt) : Bool := decide (∃ i, i < xs.length ∧ vpE xs i = false)
theorem u42 {xs : List Pt} {n : Nat} (hn : xs.length = n) (h : 0 ≤ nvK xs n) : nvA xs = true := by
  obtain ⟨k, hk, h1⟩ := rA h
  exact decide_eq_true ⟨k, by omega, by simpa [nvB, vpE] using h1⟩
theorem u43 {xs : List Pt} {n : Nat} (hn : xs.length = n) (h : ¬ 0 ≤ nvK xs n) : nvA xs = false := decide_eq_false fun ⟨k, hk, e⟩ => by
  have h1 := lI h k (by omega)
  have h1 : nvB (uK xs k) (q7 xs k) = false := h1
  rw [u6k e] at h1; cases h1
theorem v1k {xs : List Pt} (h : 1 ≤ xs.length ∧ xs.length ≤ 16) (h2 : nvA xs = false) : dW xs = true := decide_eq_true ⟨h.1, h.2, fun i hi => by
  cases e : vpE xs i with
  | true => rfl
  | false => exact absurd ⟨i, hi, e⟩ (of_decide_eq_false h2)⟩
theorem v1l {xs : List Pt} (h : ¬ (1 ≤ xs.length ∧ xs.length ≤ 16)) : dW xs = false := decide_eq_false fun e => h ⟨e.1, e.2.1⟩
theorem v1m {xs : List Pt} (h : nvA xs = true) : dW xs = false := decide_eq_false fun e => by
  obtain ⟨i, hi, h1⟩ := of_decide_eq_true h
  rw [e.2.2 i hi] at h1; cases h1
theorem k3a {xs : List Pt} (h : dW xs = true) : 1 ≤ xs.length ∧ xs.length ≤ 16 := ⟨(of_decide_eq_true h).1, (of_decide_eq_true h).2.1⟩
/-! what is reached -/
def mzB (d : Int) (xs ys : List Bx) (i j : Nat) : Bx := kF (zK d (kU ys j) (kU xs i)) (zL d 2 (qG ys j) (qG xs i)) (zN d 2 (qA ys j) (qA xs i)) (zM d 4 (kX ys j) (kX xs i)) (zL d 8 (qF ys j) (qF xs i)) (zN d 8 (k9 ys j) (k9 xs i))
def pX (d : Int) (xs ys : List Bx) (i j : Nat) : List Bx := yY [bxP xs i] [mzB d xs ys i j]
def mxE (d : Int) (xs ys : List Bx) (i j : Nat) : Int := fD [bxP xs i] [mzB d xs ys i j]
def rjL (d : Int) (xs ys : List Bx) (i : Nat) (o : List Bx) : Nat → List Bx
  | 0 => o
  | j + 1 => rjL d xs ys i o j ++ pX d xs ys i j
def sF (d : Int) (xs ys : List Bx) : Nat → List Bx
  | 0 => []
  | i + 1 => rjL d xs ys i (sF d xs ys i) (ka0 ys)
def rjB (d : Int) (xs ys : List Bx) (i : Nat) (b : Bool) : Nat → Bool
  | 0 => b
  | j + 1 => rjB d xs ys i b j && decide (mxE d xs ys i j = 0 ∧ ka0 (rjL d xs ys i (sF d xs ys i) j) + ka0 (pX d xs ys i j) ≤ 64)
def riB (d : Int) (xs ys : List Bx) : Nat → Bool
  | 0 => true
  | i + 1 => rjB d xs ys i (riB d xs ys i) (ka0 ys)
theorem k22 (d : Int) (xs ys : List Bx) (i : Nat) (b : Bool) (j : Nat) : ∀ k, rjB d xs ys i b j = false → rjB d xs ys i b (j + k) = false
  | 0, h => h
  | k + 1, h => by
    show (rjB d xs ys i b (j + k) && _) = false
    rw [k22 d xs ys i b j k h]; rfl
theorem u9m (d : Int) (xs ys : List Bx) (i : Nat) : ∀ k, rjB d xs ys i false k = false
  | 0 => rfl
  | k + 1 => by
    show (rjB d xs ys i false k && _) = false
    rw [u9m d xs ys i k]; rfl
theorem k23 (d : Int) (xs ys : List Bx) (i : Nat) : ∀ k, riB d xs ys i = false → riB d xs ys (i + k) = false
  | 0, h => h
  | k + 1, h => by
    show rjB d xs ys (i + k) (riB d xs ys (i + k)) _ = false
    rw [k23 d xs ys i k h]; exact u9m ..
def RI (d : Int) (xs ys : List Bx) (i : Nat) (o : List Bx) : Prop := sF d xs ys i = o ∧ riB d xs ys i = true
def RJ (d : Int) (xs ys : List Bx) (i j : Nat) (o : List Bx) : Prop := rjL d xs ys i (sF d xs ys i) j = o ∧ rjB d xs ys i (riB d xs ys i) j = true
theorem RI.zero (d : Int) (xs ys : List Bx) : RI d xs ys 0 [] := ⟨rfl, rfl⟩
theorem RI.in {d : Int} {xs ys : List Bx} {i : Nat} {o : List Bx} (h : RI d xs ys i o) : RJ d xs ys i 0 o := h
theorem RJ.out {d : Int} {xs ys : List Bx} {i j : Nat} {o : List Bx} (h : RJ d xs ys i j o) (hj : j = ka0 ys) : RI d xs ys (i + 1) o := by subst hj; exact h
theorem RJ.y {d : Int} {xs ys : List Bx} {i j : Nat} {o : List Bx} (h : RJ d xs ys i j o) (h1 : mxE d xs ys i j = 0) (h2 : ka0 o + ka0 (pX d xs ys i j) ≤ 64) : RJ d xs ys i (j + 1) (o ++ pX d xs ys i j) := by
  refine ⟨?_, ?_⟩
  · show rjL d xs ys i (sF d xs ys i) j ++ _ = _
    rw [h.1]
  · show (rjB d xs ys i (riB d xs ys i) j && decide _) = true
    rw [h.2, decide_eq_true ⟨h1, by rw [h.1]; exact h2⟩]; rfl
def c6 (d : Int) (xs ys : List Bx) : List Bx := if riB d xs ys (ka0 xs) = true then bG (sF d xs ys (ka0 xs)) else []
def iJ (d : Int) (xs ys : List Bx) : Int := if riB d xs ys (ka0 xs) = true then jR (sF d xs ys (ka0 xs)) else 3
theorem v37 {d : Int} {xs ys o : List Bx} {i : Nat} (h : RI d xs ys i o) (hi : i = ka0 xs) : c6 d xs ys = bG o ∧ iJ d xs ys = jR o := by
  subst hi; unfold c6 iJ; rw [h.1, h.2]; exact ⟨rfl, rfl⟩
theorem v38 {d : Int} {xs ys o : List Bx} {i j : Nat} (h : RJ d xs ys i j o) (hi : i < ka0 xs) (hj : j < ka0 ys) (h1 : ¬ (mxE d xs ys i j = 0 ∧ ka0 o + ka0 (pX d xs ys i j) ≤ 64)) : c6 d xs ys = [] ∧ iJ d xs ys = 3 := by
  have a1 : rjB d xs ys i (riB d xs ys i) (j + 1) = false := by
    show (_ && decide _) = false
    rw [decide_eq_false (by rw [h.1]; exact h1), Bool.and_false]
  have a2 := k22 d xs ys i (riB d xs ys i) (j + 1) (ka0 ys - (j + 1)) a1
  rw [show j + 1 + (ka0 ys - (j + 1)) = ka0 ys by omega] at a2
  have a3 := k23 d xs ys (i + 1) (ka0 xs - (i + 1)) a2
  rw [show i + 1 + (ka0 xs - (i + 1)) = ka0 xs by omega] at a3
  unfold c6 iJ; rw [a3]; exact ⟨rfl, rfl⟩
/-! chapter 12: what is shared, what is blamed, what is reached -/
def nT (a b : Int) : Int := qM .or .i64 a b
def oP (d b w : Int) : Int := if b = 0 then nT d w else d
theorem gL {d b w : Int} (h : b = 0) : nT d w = oP d b w := (if_pos h).symm
theorem gM {d b w : Int} (h : ¬ b = 0) : d = oP d b w := (if_neg h).symm
def seV (e : Int) (k : Int) (r : List Int) (rn : Nat) (m : List (List Int)) (s : List Int) (sn : Nat) (k2 : Int) (r2 : List Int) (rn2 : Nat) (m2 : List (List Int)) (s2 : List Int) (sn2 : Nat) : Int := vY [kF k r rn m s sn] [kF (zK e k2 k) (zL e 2 r2 r) (zN e 2 rn2 rn) (zM e 4 m2 m) (zL e 8 s2 s) (zN e 8 sn2 sn)]
def aW (d : Int) (k : Int) (r : List Int) (rn : Nat) (m : List (List Int)) (s : List Int) (sn : Nat) (k2 : Int) (r2 : List Int) (rn2 : Nat) (m2 : List (List Int)) (s2 : List Int) (sn2 : Nat) : Nat → Int
  | 0 => d
  | 1 => oP d (seV 14 k r rn m s sn k2 r2 rn2 m2 s2 sn2) 1
  | 2 => oP (oP d (seV 14 k r rn m s sn k2 r2 rn2 m2 s2 sn2) 1) (seV 13 k r rn m s sn k2 r2 rn2 m2 s2 sn2) 2
  | 3 => oP (oP (oP d (seV 14 k r rn m s sn k2 r2 rn2 m2 s2 sn2) 1) (seV 13 k r rn m s sn k2 r2 rn2 m2 s2 sn2) 2) (seV 11 k r rn m s sn k2 r2 rn2 m2 s2 sn2) 4
  | _ => oP (oP (oP (oP d (seV 14 k r rn m s sn k2 r2 rn2 m2 s2 sn2) 1) (seV 13 k r rn m s sn k2 r2 rn2 m2 s2 sn2) 2) (seV 11 k r rn m s sn k2 r2 rn2 m2 s2 sn2) 4) (seV 7 k r rn m s sn k2 r2 rn2 m2 s2 sn2) 8
def shW (d : Int) (xs ys : List Bx) (i j : Nat) : Int := aW d (kU xs i) (qG xs i) (qA xs i) (kX xs i) (qF xs i) (k9 xs i) (kU ys j) (qG ys j) (qA ys j) (kX ys j) (qF ys j) (k9 ys j) 4
def bpS (d : Int) (xs ys : List Bx) : Nat → List Int
  | 0 => []
  | i + 1 => bpS d xs ys i ++ (kd3 (ka0 ys)).map (shW d xs ys i)
def bpJ (d : Int) (xs ys : List Bx) (i j : Nat) : List Int := bpS d xs ys i ++ (kd3 j).map (shW d xs ys i)
theorem v1v {d : Int} {xs ys : List Bx} {i : Nat} {o : List Int} (h : bpS d xs ys i = o) : bpJ d xs ys i 0 = o := by
  unfold bpJ; rw [h]; exact kd6 _
theorem v1t {d : Int} {xs ys : List Bx} {i j : Nat} {o : List Int} {x : Int} (h : bpJ d xs ys i j = o) (hx : x = shW d xs ys i j) : bpJ d xs ys i (j + 1) = o ++ [x] := by
  subst h; subst hx
  unfold bpJ; rw [kj3, kg1, kd2]; rfl
theorem v1u {d : Int} {xs ys : List Bx} {i j : Nat} {o : List Int} (h : bpJ d xs ys i j = o) (hj : j = ka0 ys) : bpS d xs ys (i + 1) = o := by
  subst hj; exact h
def blM (l : List Int) (n : Nat) : Nat → Int
  | 0 => 15
  | i + 1 => if o5 l n (14 - (i : Int)) = false ∧ uQ (14 - (i : Int)) ≤ uQ (blM l n i) then 14 - (i : Int) else blM l n i
theorem u82 {l : List Int} {n i : Nat} {y x : Int} (h : blM l n i = y) (h2 : o5 l n (14 - (i : Int)) = false) (h3 : uQ (14 - (i : Int)) ≤ uQ y) (hx : x = 14 - (i : Int)) : blM l n (i + 1) = x := by
  subst h; rw [hx]; exact if_pos ⟨h2, h3⟩
theorem u84 {l : List Int} {n i : Nat} {y : Int} (h : blM l n i = y) (h2 : o5 l n (14 - (i : Int)) = true) : blM l n (i + 1) = y := by
  subst h; exact if_neg fun e => by rw [h2] at e; cases e.1
theorem u83 {l : List Int} {n i : Nat} {y : Int} (h : blM l n i = y) (h3 : ¬ uQ (14 - (i : Int)) ≤ uQ y) : blM l n (i + 1) = y := by
  subst h; exact if_neg fun e => h3 e.2
theorem v1s (l : List Int) (n : Nat) (hn : 1 ≤ n) : ∀ i, blM l n i = cK l n i
  | 0 => rfl
  | i + 1 => by
    rw [blM, cK, v1s l n hn i]
    by_cases e : o5 l n (14 - (i : Int)) = false ∧ uQ (14 - (i : Int)) ≤ uQ (cK l n i)
    · rw [if_pos e, if_pos ⟨hn, e⟩]
    · rw [if_neg e, if_neg fun e2 => e e2.2]
def blN (d : Int) (xs ys : List Bx) : Int := if ka0 xs = 0 then 15 else blM (bpS d xs ys (ka0 xs)) (ka0 (bpS d xs ys (ka0 xs))) 14
theorem u2w {d : Int} {xs ys : List Bx} (h : ka0 xs = 0) : 15 = blN d xs ys := (if_pos h).symm
theorem u2v {d : Int} {xs ys : List Bx} {o : List Int} {i n z : Nat} {y : Int} (h : ¬ ka0 xs = 0) (ho : bpS d xs ys i = o) (hi : i = ka0 xs) (hn : ka0 o = n) (hy : blM o n z = y) (hz : z = 14) : y = blN d xs ys := by
  subst hi; subst hn; subst hz; unfold blN; rw [if_neg h, ho, hy]
theorem u3o {d : Int} {xs ys : List Bx} (h : BsW xs) (i : Nat) {o : List Bx} (ho : BsW o) : ∀ j, BsW (rjL d xs ys i o j)
  | 0 => ho
  | j + 1 => (u3o h i ho j).app (u48 (BsW.one (h.box i)))
theorem u3q {d : Int} {xs ys : List Bx} (h : BsW xs) : ∀ i, BsW (sF d xs ys i)
  | 0 => BsW.nil
  | i + 1 => u3o h i (u3q h i) _
theorem u9u {xs ys : List Bx} (h : BsW xs) (_ : BsW ys) (d : Int) : BsW (c6 d xs ys) := by
  unfold c6; split
  · exact k5v (u3q h _)
  · exact BsW.nil
theorem k5x (d : Int) (xs ys : List Bx) : ka0 (c6 d xs ys) ≤ 64 := by
  unfold c6; split
  · exact k0o _
  · exact ke2 _
theorem k26 (d : Int) (xs ys : List Bx) : 0 ≤ iJ d xs ys ∧ iJ d xs ys ≤ 3 := by
  have := iT (sF d xs ys (ka0 xs))
  unfold iJ; split <;> omega
def yZ (ps : List Pt) : Nat → List Bx
  | 0 => bG (uK ps 0)
  | i + 1 => c6 (q7 ps i) (uK ps (i + 1)) (yZ ps i)
def fwE (ps : List Pt) : Nat → Int
  | 0 => 0
  | i + 1 => iJ (q7 ps i) (uK ps (i + 1)) (yZ ps i)
def fwB (ps : List Pt) : Nat → Int
  | 0 => 15
  | i + 1 => blN (q7 ps i) (uK ps (i + 1)) (yZ ps i)
theorem k31 {ps : List Pt} (h : PsW ps) : ∀ i, BsW (yZ ps i)
  | 0 => k5v (h.get 0).1
  | i + 1 => u9u (h.get _).1 (k31 h i) _
theorem k7u (ps : List Pt) : ∀ i, ka0 (yZ ps i) ≤ 64
  | 0 => k0o _
  | i + 1 => k5x _ _ _
def iA (ps : List Pt) (n : Nat) : List (List Bx) := (kd3 n).map (yZ ps)
theorem kY (ps : List Pt) (n : Nat) : ka0 (iA ps n) = n := by unfold iA; rw [List.length_map, List.length_range]
theorem u4g (ps : List Pt) (n : Nat) : iA ps (n + 1) = iA ps n ++ [yZ ps n] := by unfold iA; rw [kj3, kg1]; rfl
theorem v16 {ps : List Pt} {n i : Nat} (h : i < n) : kI (iA ps n) i = yZ ps i := by
  unfold kI iA
  rw [ka7, ke7, List.getElem?_range h]; rfl
theorem k30 {ps : List Pt} {n i : Nat} (h : i < n) : (aK (iA ps n))[i]? = some (D.sl (kV (yZ ps i)) (ka0 (yZ ps i))) := by
  rw [u2p _ _ (by rw [kY]; exact h), v16 h]
theorem v17 {ps : List Pt} (h : PsW ps) (n : Nat) : BzW (iA ps n) := fun l hl => by
  obtain ⟨i, _, rfl⟩ := List.mem_map.1 hl
  exact ⟨k31 h i, k7u ps i⟩
def wdB (ps : List Pt) (j : Nat) : Bool := decide (¬ fwE ps j = 0 ∨ ka0 (yZ ps j) = 0)
def o9 (ps : List Pt) : Nat → Int := jD (wdB ps)
theorem u92 {ps : List Pt} {j : Nat} (h : fwE ps j = 0) (h2 : ¬ ka0 (yZ ps j) = 0) : wdB ps j = false := decide_eq_false fun e => e.elim (fun a => a h) h2
theorem u91 {ps : List Pt} {j : Nat} (h : ¬ fwE ps j = 0 ∨ ka0 (yZ ps j) = 0) : wdB ps j = true := decide_eq_true h
def fwX (ps : List Pt) : Nat := (o9 ps (ka0 ps)).toNat
def fwO (ps : List Pt) : Bool := dW ps && decide (o9 ps (ka0 ps) < 0)
def kG (ps : List Pt) : List (List Bx) := if fwO ps = true then iA ps (ka0 ps) else []
def aH (ps : List Pt) : Int := if dW ps = true then (if o9 ps (ka0 ps) < 0 then 0 else if fwE ps (fwX ps) = 0 then 13 else fwE ps (fwX ps)) else 1
def uH (ps : List Pt) : Int := if aH ps = 13 then (fwX ps : Int) else 0
def aD (ps : List Pt) : Int := if aH ps = 13 then fwB ps (fwX ps) else 0
theorem u7f {ps : List Pt} (h : dW ps = false) : kG ps = [] ∧ uH ps = 0 ∧ aD ps = 0 ∧ aH ps = 1 := by
  have e : aH ps = 1 := by unfold aH; rw [h]; rfl
  unfold kG fwO uH aD; rw [e, h]; exact ⟨rfl, rfl, rfl, rfl⟩
theorem k7p {ps : List Pt} {i : Nat} (h : dW ps = true) (hk : o9 ps i = -1) (hi : i = ka0 ps) : kG ps = iA ps (ka0 ps) ∧ uH ps = 0 ∧ aD ps = 0 ∧ aH ps = 0 := by
  subst hi
  have e : aH ps = 0 := by unfold aH; rw [h, hk]; rfl
  unfold kG fwO uH aD; rw [e, h, hk]; exact ⟨rfl, rfl, rfl, rfl⟩
theorem u4f {ps : List Pt} {i : Nat} (hk : o9 ps i = -1) (hi : i < ka0 ps) (hb : wdB ps i = true) : o9 ps (ka0 ps) = (i : Int) ∧ fwX ps = i := by
  have e : o9 ps (ka0 ps) = (i : Int) := eX hk hb _ hi
  exact ⟨e, by unfold fwX; rw [e]; rfl⟩
theorem u7e {ps : List Pt} {i : Nat} (h : dW ps = true) (hk : o9 ps i = -1) (hi : i < ka0 ps) (hb : ¬ fwE ps i = 0) (hr : fwE ps i ≤ 3) : kG ps = [] ∧ uH ps = 0 ∧ aD ps = 0 ∧ aH ps = fwE ps i := by
  obtain ⟨e1, e2⟩ := u4f hk hi (u91 (.inl hb))
  have e : aH ps = fwE ps i := by
    unfold aH; rw [h, e1, e2, if_pos rfl, if_neg (by omega), if_neg hb]
  have hne : ¬ aH ps = 13 := by rw [e]; omega
  exact ⟨by unfold kG fwO; rw [h, e1, decide_eq_false (by omega)]; rfl, if_neg hne, if_neg hne, e⟩
theorem mN {ps : List Pt} {i : Nat} (h : dW ps = true) (hk : o9 ps i = -1) (hi : i < ka0 ps) (hb : fwE ps i = 0) (h2 : ka0 (yZ ps i) = 0) : kG ps = [] ∧ uH ps = (i : Int) ∧ aD ps = fwB ps i ∧ aH ps = 13 := by
  obtain ⟨e1, e2⟩ := u4f hk hi (u91 (.inr h2))
  have e : aH ps = 13 := by
    unfold aH; rw [h, e1, e2, if_pos rfl, if_neg (by omega), if_pos hb]
  exact ⟨by unfold kG fwO; rw [h, e1, decide_eq_false (by omega)]; rfl, by unfold uH; rw [if_pos e, e2], by unfold aD; rw [if_pos e, e2], e⟩
theorem aR {d b : Int} {r r2 : List Int} {n n2 : Nat} (h : r.length = n * 2) (h2 : r2.length = n2 * 2) : ka0 (zL d b r r2) = zN d b n n2 * 2 := by
  unfold zL zN; split <;> assumption
theorem d3 {d b : Int} {n n2 K : Nat} (h : n ≤ K) (h2 : n2 ≤ K) : zN d b n n2 ≤ K := by unfold zN; split <;> assumption
theorem oT {d b : Int} {m m2 : List (List Int)} (h : MsW m) (h2 : MsW m2) : MsW (zM d b m m2) := by unfold zM; split <;> assumption
theorem gQ {d b : Int} {m m2 : List (List Int)} {c c2 K : Nat} (h : m.length = c) (h2 : m2.length = c2) (h3 : c ≤ K) (h4 : c2 ≤ K) : ka0 (zM d b m m2) ≤ K := by unfold zM; split <;> omega
theorem k1l {k : Int} {r : List Int} {rn : Nat} {m : List (List Int)} {s : List Int} {sn : Nat} {c : Nat} (h : r.length = rn * 2) (h2 : s.length = sn * 2) (h3 : rn ≤ 1000000) (h4 : sn ≤ 1000000) (h5 : m.length = c) (h6 : c ≤ 1000000) (h7 : MsW m) : BsW [kF k r rn m s sn] := BsW.one ⟨h, h2, h3, h4, by show m.length ≤ _; omega, h7⟩
theorem RJ.y2 {d : Int} {xs ys : List Bx} {i j p : Nat} {o : List Bx} (h : RJ d xs ys i j o) (h1 : mxE d xs ys i j = 0) (hp : o.length = p) (h2 : ¬ 64 < (p : Int) + ((ka0 (pX d xs ys i j) : Nat) : Int)) : RJ d xs ys i (j + 1) (o ++ pX d xs ys i j) := h.y h1 (by omega)
theorem u3s {d : Int} {xs ys o : List Bx} {i j p : Nat} (h : RJ d xs ys i j o) (hi : i < ka0 xs) (hj : j < ka0 ys) (hp : o.length = p) (h1 : ¬ mxE d xs ys i j = 0 ∨ 64 < (p : Int) + ((ka0 (pX d xs ys i j) : Nat) : Int)) : c6 d xs ys = [] ∧ iJ d xs ys = 3 := v38 h hi hj (by omega)
theorem k6p {d : Int} {xs ys : List Bx} (h : BsW xs) (i j : Nat) : BsW (pX d xs ys i j) := u48 (BsW.one (h.box i))
def agL (d : Int) (xs ys : List Bx) : Nat → List Bx
  | 0 => []
  | i + 1 => agL d xs ys i ++ ((kd3 (ka0 xs)).map fun j => pX d xs ys j i).flatten
def agJ (d : Int) (xs ys : List Bx) (i j : Nat) : List Bx := agL d xs ys i ++ ((kd3 j).map fun j => pX d xs ys j i).flatten
def vI (d : Int) (xs ys : List Bx) : List Bx := agL d xs ys (ka0 ys)
theorem u58 {d : Int} {xs ys : List Bx} {i : Nat} {o : List Bx} (h : agL d xs ys i = o) : agJ d xs ys i 0 = o := by
  unfold agJ; rw [h]; exact kd6 _
theorem u57 {d : Int} {xs ys : List Bx} {i j : Nat} {o : List Bx} (h : agJ d xs ys i j = o) : agJ d xs ys i (j + 1) = o ++ pX d xs ys j i := by
  subst h; unfold agJ
  rw [kj3, kg1, List.flatten_append, kd2]
  show _ ++ (_ ++ (pX d xs ys j i ++ [])) = _
  rw [kd6]
theorem v29 {d : Int} {xs ys : List Bx} {i j : Nat} {o : List Bx} (h : agJ d xs ys i j = o) (hj : j = ka0 xs) : agL d xs ys (i + 1) = o := by
  subst hj; exact h
theorem u04 {d : Int} {xs ys : List Bx} {i : Nat} : ∀ j, ka0 (agJ d xs ys i j) ≤ ka0 (agL d xs ys i) + j * 64
  | 0 => by rw [u58 rfl]; omega
  | j + 1 => by
    have h1 := u04 (d := d) (xs := xs) (ys := ys) (i := i) j
    have h2 : ka0 (pX d xs ys j i) ≤ 64 := s9 _ _
    rw [u57 rfl, ka6]; omega
theorem u8b {d : Int} {xs ys : List Bx} {n : Nat} (h : n ≤ 64) (hn : ka0 xs = n) (h2 : ka0 ys ≤ 1) : ka0 (vI d xs ys) ≤ 4096 := by
  unfold vI
  match h3 : ka0 ys, h2 with
  | 0, _ => exact ke2 _
  | 1, _ =>
    have := u04 (d := d) (xs := xs) (ys := ys) (i := 0) (ka0 xs)
    have h4 : ka0 (agL d xs ys 0) = 0 := rfl
    show ka0 (agJ d xs ys 0 (ka0 xs)) ≤ _
    omega
theorem v15 {ps : List Pt} (h : PsW ps) : BzW (kG ps) := by
  unfold kG; split
  · exact v17 h _
  · exact BzW.nil
theorem v2z {ps : List Pt} {j : Nat} (h : ¬ fwE ps j ≠ 0) (h2 : ¬ ((ka0 (yZ ps j) : Nat) : Int) = 0) : wdB ps j = false := u92 (Decidable.of_not_not h) (by omega)
theorem v30 {ps : List Pt} (h2 : ¬ ((ka0 (yZ ps 0) : Nat) : Int) = 0) : o9 ps 1 = -1 := cF (p := wdB ps) (k := 0) rfl (u92 rfl (by omega))
theorem k7r {ps : List Pt} (h : dW ps = true) (h2 : ((ka0 (yZ ps 0) : Nat) : Int) = 0) : kG ps = [] ∧ uH ps = 0 ∧ aD ps = 15 ∧ aH ps = 13 := mN (i := 0) h rfl (k3a h).1 rfl (by omega)
theorem k7q {ps : List Pt} {i : Nat} (h : dW ps = true) (hk : o9 ps (i + 1) = -1) (hi : i + 1 < ka0 ps) (hb : ¬ fwE ps (i + 1) ≠ 0) (h2 : ((ka0 (yZ ps (i + 1)) : Nat) : Int) = 0) : kG ps = [] ∧ uH ps = ((i : Nat) : Int) + 1 ∧ aD ps = blN (q7 ps i) (uK ps (i + 1)) (yZ ps i) ∧ aH ps = 13 := mN (i := i + 1) h hk hi (Decidable.of_not_not hb) (by omega)
theorem u33 (a : Int) : BxW (kF 4 [a, a] 1 [[3]] [64, 64] 1) := ⟨rfl, rfl, (by decide : 1 ≤ 1000000), (by decide : 1 ≤ 1000000), (by decide : 1 ≤ 1000000), fun l hl => by rw [List.mem_singleton.1 hl]; exact (by decide : 1 ≤ 1000000)⟩
theorem u3w {x y : Bx} {d e : Int} (hx : BxW x) (hy : BxW y) : PsW [hZ [x] d, hZ [y] e] := fun p hp => by
  rcases List.mem_cons.1 hp with rfl | hp
  · exact ⟨BsW.one hx, (by decide : 1 ≤ 1000)⟩
  · rw [List.mem_singleton.1 hp]; exact ⟨BsW.one hy, (by decide : 1 ≤ 1000)⟩
end Go.Proofs.YtbicifcgghmhaaaGreat
