/- Chains of ports as data. No statement is proved here. -/
import Derived.Test.YtbicifcgghmhaaaGreatZU10
namespace Go.Proofs.YtbicifcgghmhaaaGreat
open Go.ChangeShapes Go.WideShapes Go.ChangeAt Go.RowKit
open List renaming append_assoc → kc9, append_nil → ke2, drop → ka3, drop_drop → ke4, getD_eq_getElem?_getD → ka6, getElem?_drop → ke3, getElem?_eq_getElem → ka7, getElem?_map → ke6, length → ka0, length_append → ka8, map_append → kf9, mem_of_getElem? → ke1, range → kd0, range_succ → kj2, take → ka5
open Nat renaming zero_le → kd7
set_option linter.unusedVariables false
set_option linter.unusedSimpArgs false
/-! chapter 12: ports as data, lists of lists of boxes -/
structure Pt where
  bs : List Bx
  cv : Int
def pt0 : Pt := ⟨[], 0⟩
def u0 (b : List Bx) (c : Int) : Pt := ⟨b, c⟩
def ptR (p : Pt) : List D := [D.sl (kP p.bs) p.bs.length, D.lit (.int .i64 p.cv)]
def qH : List Pt → List D
  | [] => []
  | p :: r => ptR p ++ qH r
theorem qS : ∀ xs : List Pt, ka0 (qH xs) = ka0 xs * 2
  | [] => rfl
  | b :: r => by show ka0 (ptR b ++ qH r) = (ka0 r + 1) * 2; rw [ka8, qS r]; show 2 + _ = _; omega
theorem pZ : ∀ a b : List Pt, qH (a ++ b) = qH a ++ qH b
  | [], _ => rfl
  | l :: r, b => by show ptR l ++ qH (r ++ b) = ptR l ++ qH r ++ qH b; rw [pZ r b, kc9]
theorem eS : ∀ (i : Nat) (xs : List Pt), ka3 (i * 2) (qH xs) = qH (ka3 i xs)
  | 0, _ => rfl
  | i + 1, [] => by simp [qH]
  | i + 1, l :: r => by
    show ka3 ((i + 1) * 2) (ptR l ++ qH r) = qH (ka3 i r)
    rw [show (i + 1) * 2 = 2 + i * 2 by omega, ← ke4, ← eS i r]; rfl
theorem mI : ∀ (i : Nat) (xs : List Pt), ka5 (i * 2) (qH xs) = qH (ka5 i xs)
  | 0, _ => rfl
  | i + 1, [] => by simp [qH]
  | i + 1, l :: r => by
    show ka5 ((i + 1) * 2) (ptR l ++ qH r) = ptR l ++ qH (ka5 i r)
    rw [← mI i r, show (i + 1) * 2 = ka0 (ptR l) + i * 2 by show _ = 2 + _; omega, List.take_length_add_append]
def i9 (xs : List Pt) (i : Nat) : Pt := List.getD xs i pt0
def qF (xs : List Pt) (i : Nat) : List Bx := (i9 xs i).bs
def q6 (xs : List Pt) (i : Nat) : Int := (i9 xs i).cv
theorem pY {xs : List Pt} {i : Nat} (h : i < ka0 xs) : qH (ka3 i xs) = ptR (i9 xs i) ++ qH (ka3 (i + 1) xs) := by
  have e : i9 xs i = xs[i] := by unfold i9; rw [ka6, ka7 h]; rfl
  rw [List.drop_eq_getElem_cons h, e]; rfl
theorem u3k {xs : List Pt} {i : Nat} (h : i < ka0 xs) : ka5 2 (ka3 (i * 2) (qH xs)) = [D.sl (kP (qF xs i)) (ka0 (qF xs i)), D.lit (.int .i64 (q6 xs i))] := by
  rw [eS, pY h]; rfl
theorem zV {xs : List Pt} {i : Nat} (h : i < ka0 xs) : (ka3 (i * 2) (qH xs))[0]? = some (D.sl (kP (qF xs i)) (ka0 (qF xs i))) := by
  rw [eS, pY h]; rfl
theorem u0p {xs : List Pt} {i : Nat} (h : i < ka0 xs) : (ka3 (i * 2 + 1) (qH xs))[0]? = some (D.lit (.int .i64 (q6 xs i))) := by
  rw [← ke4, eS, pY h]; rfl
theorem lD (xs : List Pt) (b : List Bx) (n : Nat) (c : Int) (h : b.length = n) : qH xs ++ [D.sl (kP b) n, D.lit (.int .i64 c)] = qH (xs ++ [u0 b c]) := by
  subst h; rw [pZ]; rfl
def PsW (xs : List Pt) : Prop := ∀ p ∈ xs, BsW p.bs ∧ ka0 p.bs ≤ 1000
theorem PsW.get {xs : List Pt} (h : PsW xs) (i : Nat) : BsW (qF xs i) ∧ ka0 (qF xs i) ≤ 1000 := by
  unfold qF i9
  rw [ka6]
  cases e : xs[i]? with
  | none => exact ⟨BsW.nil, kd7 _⟩
  | some l => exact h l (ke1 e)
theorem PsW.nil : PsW [] := fun l h => by cases h
theorem PsW.take {xs : List Pt} (h : PsW xs) (n : Nat) : PsW (ka5 n xs) := fun m hm => h m (List.mem_of_mem_take hm)
theorem PsW.app {xs ys : List Pt} (h : PsW xs) (h2 : PsW ys) : PsW (xs ++ ys) := fun m hm => (List.mem_append.1 hm).elim (h m) (h2 m)
theorem PsW.one {b : List Bx} {c : Int} (h : BsW b) (h2 : ka0 b ≤ 1000) : PsW [u0 b c] := fun m hm => by rw [List.mem_singleton.1 hm]; exact ⟨h, h2⟩
def v8 (xs : List (List Bx)) : List D := xs.map fun l => D.sl (kP l) l.length
theorem qY (xs : List (List Bx)) : ka0 (v8 xs) = ka0 xs := by unfold v8; simp
theorem u2j (xs : List (List Bx)) (l : List Bx) (n : Nat) (h : l.length = n) : v8 xs ++ [D.sl (kP l) n] = v8 (xs ++ [l]) := by subst h; unfold v8; simp
def d7 (xs : List (List Bx)) (i : Nat) : List Bx := List.getD xs i []
theorem k99 (xs : List (List Bx)) (i : Nat) (h : i < xs.length) : (ka3 i (v8 xs))[0]? = some (D.sl (kP (d7 xs i)) (ka0 (d7 xs i))) := by
  unfold v8 d7
  rw [ke3, Nat.add_zero, ke6, ka7 h, ka6, ka7 h]; rfl
theorem u2i (xs : List (List Bx)) (i : Nat) (h : i < xs.length) : (v8 xs)[i]? = some (D.sl (kP (d7 xs i)) (ka0 (d7 xs i))) := by
  rw [← k99 xs i h, ke3, Nat.add_zero]
def BzW (xs : List (List Bx)) : Prop := ∀ l ∈ xs, BsW l ∧ ka0 l ≤ 64
theorem BzW.get {xs : List (List Bx)} (h : BzW xs) (i : Nat) : BsW (d7 xs i) ∧ ka0 (d7 xs i) ≤ 64 := by
  unfold d7; rw [ka6]
  cases e : xs[i]? with
  | none => exact ⟨BsW.nil, kd7 _⟩
  | some l => exact h l (ke1 e)
theorem BzW.nil : BzW [] := fun l h => by cases h
theorem BzW.snoc {xs : List (List Bx)} {l : List Bx} (h : BzW xs) (h2 : BsW l) (h3 : ka0 l ≤ 64) : BzW (xs ++ [l]) := fun m hm => (List.mem_append.1 hm).elim (h m) fun hm => by
  rw [List.mem_singleton.1 hm]; exact ⟨h2, h3⟩
def tN (b : List Bx) (c : Int) : Bool := decide (ka0 b ≤ 8 ∧ 0 ≤ c ∧ c ≤ 15) && bY b
theorem u8r {b : List Bx} {c : Int} (h : ka0 b ≤ 8 ∧ 0 ≤ c ∧ c ≤ 15) (h2 : bY b = true) : tN b c = true := by unfold tN; rw [decide_eq_true h, h2]; rfl
theorem u5q {b : List Bx} {c : Int} (h : ¬ (ka0 b ≤ 8 ∧ 0 ≤ c ∧ c ≤ 15)) : tN b c = false := by unfold tN; rw [decide_eq_false h]; rfl
theorem v37 {b : List Bx} {c : Int} (h2 : bY b = false) : tN b c = false := by unfold tN; rw [h2, Bool.and_false]
def vpE (xs : List Pt) (i : Nat) : Bool := tN (qF xs i) (q6 xs i)
def nvB (b : List Bx) (c : Int) : Bool := !(tN b c)
theorem v0c {b : List Bx} {c : Int} (h : tN b c = false) : nvB b c = true := by unfold nvB; rw [h]; rfl
theorem v47 {b : List Bx} {c : Int} (h : tN b c = true) : nvB b c = false := by unfold nvB; rw [h]; rfl
def xZ (xs : List Pt) : Nat → Int := jV fun j => nvB (qF xs j) (q6 xs j)
theorem v0d {xs : List Pt} {k : Nat} (h : xZ xs k = -1) (h2 : nvB (qF xs k) (q6 xs k) = false) : xZ xs (k + 1) = -1 := bQ h h2
theorem v0e {xs : List Pt} {k : Nat} (h : xZ xs k = -1) (h2 : nvB (qF xs k) (q6 xs k) = true) {n : Nat} (hn : k < n) : xZ xs n = (k : Int) := dW h h2 n hn
def cM (xs : List Pt) : Bool := decide (1 ≤ xs.length ∧ xs.length ≤ 16 ∧ ∀ i, i < xs.length → vpE xs i = true)
def nvA (xs : List Pt) : Bool := decide (∃ i, i < xs.length ∧ vpE xs i = false)
theorem v0f {xs : List Pt} {n : Nat} (hn : xs.length = n) (h : 0 ≤ xZ xs n) : nvA xs = true := by
  obtain ⟨k, hk, h1⟩ := oY h
  exact decide_eq_true ⟨k, by omega, by simpa [nvB, vpE] using h1⟩
theorem v0g {xs : List Pt} {n : Nat} (hn : xs.length = n) (h : ¬ 0 ≤ xZ xs n) : nvA xs = false := decide_eq_false fun ⟨k, hk, e⟩ => by
  have h1 := jF h k (by omega)
  have h1 : nvB (qF xs k) (q6 xs k) = false := h1
  rw [v0c e] at h1; cases h1
theorem v1o {xs : List Pt} (h : 1 ≤ xs.length ∧ xs.length ≤ 16) (h2 : nvA xs = false) : cM xs = true := decide_eq_true ⟨h.1, h.2, fun i hi => by
  cases e : vpE xs i with
  | true => rfl
  | false => exact absurd ⟨i, hi, e⟩ (of_decide_eq_false h2)⟩
theorem u4m {xs : List Pt} (h : ¬ (1 ≤ xs.length ∧ xs.length ≤ 16)) : cM xs = false := decide_eq_false fun e => h ⟨e.1, e.2.1⟩
theorem v1p {xs : List Pt} (h : nvA xs = true) : cM xs = false := decide_eq_false fun e => by
  obtain ⟨i, hi, h1⟩ := of_decide_eq_true h
  rw [e.2.2 i hi] at h1; cases h1
theorem k27 {xs : List Pt} (h : cM xs = true) : 1 ≤ xs.length ∧ xs.length ≤ 16 := ⟨(of_decide_eq_true h).1, (of_decide_eq_true h).2.1⟩
/-! what is reached -/
def mzB (d : Int) (xs ys : List Bx) (i j : Nat) : Bx := kE (zK d (kR ys j) (kR xs i)) (zL d 2 (k8 ys j) (k8 xs i)) (zN d 2 (kU ys j) (kU xs i)) (zM d 4 (kS ys j) (kS xs i)) (zL d 8 (kZ ys j) (kZ xs i)) (zN d 8 (kT ys j) (kT xs i))
def lF (d : Int) (xs ys : List Bx) (i j : Nat) : List Bx := yE [bxP xs i] [mzB d xs ys i j]
def mxE (d : Int) (xs ys : List Bx) (i j : Nat) : Int := eE [bxP xs i] [mzB d xs ys i j]
def rjL (d : Int) (xs ys : List Bx) (i : Nat) (o : List Bx) : Nat → List Bx
  | 0 => o
  | j + 1 => rjL d xs ys i o j ++ lF d xs ys i j
def nK (d : Int) (xs ys : List Bx) : Nat → List Bx
  | 0 => []
  | i + 1 => rjL d xs ys i (nK d xs ys i) (ka0 ys)
def rjB (d : Int) (xs ys : List Bx) (i : Nat) (b : Bool) : Nat → Bool
  | 0 => b
  | j + 1 => rjB d xs ys i b j && decide (mxE d xs ys i j = 0 ∧ ka0 (rjL d xs ys i (nK d xs ys i) j) + ka0 (lF d xs ys i j) ≤ 64)
def zP (d : Int) (xs ys : List Bx) : Nat → Bool
  | 0 => true
  | i + 1 => rjB d xs ys i (zP d xs ys i) (ka0 ys)
theorem k13 (d : Int) (xs ys : List Bx) (i : Nat) (b : Bool) (j : Nat) : ∀ k, rjB d xs ys i b j = false → rjB d xs ys i b (j + k) = false
  | 0, h => h
  | k + 1, h => by
    show (rjB d xs ys i b (j + k) && _) = false
    rw [k13 d xs ys i b j k h]; rfl
theorem u9i (d : Int) (xs ys : List Bx) (i : Nat) : ∀ k, rjB d xs ys i false k = false
  | 0 => rfl
  | k + 1 => by
    show (rjB d xs ys i false k && _) = false
    rw [u9i d xs ys i k]; rfl
theorem k14 (d : Int) (xs ys : List Bx) (i : Nat) : ∀ k, zP d xs ys i = false → zP d xs ys (i + k) = false
  | 0, h => h
  | k + 1, h => by
    show rjB d xs ys (i + k) (zP d xs ys (i + k)) _ = false
    rw [k14 d xs ys i k h]; exact u9i ..
def RI (d : Int) (xs ys : List Bx) (i : Nat) (o : List Bx) : Prop := nK d xs ys i = o ∧ zP d xs ys i = true
def RJ (d : Int) (xs ys : List Bx) (i j : Nat) (o : List Bx) : Prop := rjL d xs ys i (nK d xs ys i) j = o ∧ rjB d xs ys i (zP d xs ys i) j = true
theorem RI.zero (d : Int) (xs ys : List Bx) : RI d xs ys 0 [] := ⟨rfl, rfl⟩
theorem RI.in {d : Int} {xs ys : List Bx} {i : Nat} {o : List Bx} (h : RI d xs ys i o) : RJ d xs ys i 0 o := h
theorem RJ.out {d : Int} {xs ys : List Bx} {i j : Nat} {o : List Bx} (h : RJ d xs ys i j o) (hj : j = ka0 ys) : RI d xs ys (i + 1) o := by subst hj; exact h
theorem RJ.y {d : Int} {xs ys : List Bx} {i j : Nat} {o : List Bx} (h : RJ d xs ys i j o) (h1 : mxE d xs ys i j = 0) (h2 : ka0 o + ka0 (lF d xs ys i j) ≤ 64) : RJ d xs ys i (j + 1) (o ++ lF d xs ys i j) := by
  refine ⟨?_, ?_⟩
  · show rjL d xs ys i (nK d xs ys i) j ++ _ = _
    rw [h.1]
  · show (rjB d xs ys i (zP d xs ys i) j && decide _) = true
    rw [h.2, decide_eq_true ⟨h1, by rw [h.1]; exact h2⟩]; rfl
def bT (d : Int) (xs ys : List Bx) : List Bx := if zP d xs ys (ka0 xs) = true then aZ (nK d xs ys (ka0 xs)) else []
def iN (d : Int) (xs ys : List Bx) : Int := if zP d xs ys (ka0 xs) = true then iM (nK d xs ys (ka0 xs)) else 3
theorem v3p {d : Int} {xs ys o : List Bx} {i : Nat} (h : RI d xs ys i o) (hi : i = ka0 xs) : bT d xs ys = aZ o ∧ iN d xs ys = iM o := by
  subst hi; unfold bT iN; rw [h.1, h.2]; exact ⟨rfl, rfl⟩
theorem v3q {d : Int} {xs ys o : List Bx} {i j : Nat} (h : RJ d xs ys i j o) (hi : i < ka0 xs) (hj : j < ka0 ys) (h1 : ¬ (mxE d xs ys i j = 0 ∧ ka0 o + ka0 (lF d xs ys i j) ≤ 64)) : bT d xs ys = [] ∧ iN d xs ys = 3 := by
  have a1 : rjB d xs ys i (zP d xs ys i) (j + 1) = false := by
    show (_ && decide _) = false
    rw [decide_eq_false (by rw [h.1]; exact h1), Bool.and_false]
  have a2 := k13 d xs ys i (zP d xs ys i) (j + 1) (ka0 ys - (j + 1)) a1
  rw [show j + 1 + (ka0 ys - (j + 1)) = ka0 ys by omega] at a2
  have a3 := k14 d xs ys (i + 1) (ka0 xs - (i + 1)) a2
  rw [show i + 1 + (ka0 xs - (i + 1)) = ka0 xs by omega] at a3
  unfold bT iN; rw [a3]; exact ⟨rfl, rfl⟩
/-! chapter 12: what is shared, what is blamed, what is reached -/
def mL (a b : Int) : Int := qE .or .i64 a b
def oP (d b w : Int) : Int := if b = 0 then mL d w else d
theorem u0u {d b w : Int} (h : b = 0) : mL d w = oP d b w := (if_pos h).symm
theorem u0v {d b w : Int} (h : ¬ b = 0) : d = oP d b w := (if_neg h).symm
def seV (e : Int) (k : Int) (r : List Int) (rn : Nat) (m : List (List Int)) (s : List Int) (sn : Nat) (k2 : Int) (r2 : List Int) (rn2 : Nat) (m2 : List (List Int)) (s2 : List Int) (sn2 : Nat) : Int := vO [kE k r rn m s sn] [kE (zK e k2 k) (zL e 2 r2 r) (zN e 2 rn2 rn) (zM e 4 m2 m) (zL e 8 s2 s) (zN e 8 sn2 sn)]
def aK (d : Int) (k : Int) (r : List Int) (rn : Nat) (m : List (List Int)) (s : List Int) (sn : Nat) (k2 : Int) (r2 : List Int) (rn2 : Nat) (m2 : List (List Int)) (s2 : List Int) (sn2 : Nat) : Nat → Int
  | 0 => d
  | 1 => oP d (seV 14 k r rn m s sn k2 r2 rn2 m2 s2 sn2) 1
  | 2 => oP (oP d (seV 14 k r rn m s sn k2 r2 rn2 m2 s2 sn2) 1) (seV 13 k r rn m s sn k2 r2 rn2 m2 s2 sn2) 2
  | 3 => oP (oP (oP d (seV 14 k r rn m s sn k2 r2 rn2 m2 s2 sn2) 1) (seV 13 k r rn m s sn k2 r2 rn2 m2 s2 sn2) 2) (seV 11 k r rn m s sn k2 r2 rn2 m2 s2 sn2) 4
  | _ => oP (oP (oP (oP d (seV 14 k r rn m s sn k2 r2 rn2 m2 s2 sn2) 1) (seV 13 k r rn m s sn k2 r2 rn2 m2 s2 sn2) 2) (seV 11 k r rn m s sn k2 r2 rn2 m2 s2 sn2) 4) (seV 7 k r rn m s sn k2 r2 rn2 m2 s2 sn2) 8
def shW (d : Int) (xs ys : List Bx) (i j : Nat) : Int := aK d (kR xs i) (k8 xs i) (kU xs i) (kS xs i) (kZ xs i) (kT xs i) (kR ys j) (k8 ys j) (kU ys j) (kS ys j) (kZ ys j) (kT ys j) 4
def bpS (d : Int) (xs ys : List Bx) : Nat → List Int
  | 0 => []
  | i + 1 => bpS d xs ys i ++ (kd0 (ka0 ys)).map (shW d xs ys i)
def bpJ (d : Int) (xs ys : List Bx) (i j : Nat) : List Int := bpS d xs ys i ++ (kd0 j).map (shW d xs ys i)
theorem v1y {d : Int} {xs ys : List Bx} {i : Nat} {o : List Int} (h : bpS d xs ys i = o) : bpJ d xs ys i 0 = o := by
  unfold bpJ; rw [h]; exact ke2 _
theorem v1w {d : Int} {xs ys : List Bx} {i j : Nat} {o : List Int} {x : Int} (h : bpJ d xs ys i j = o) (hx : x = shW d xs ys i j) : bpJ d xs ys i (j + 1) = o ++ [x] := by
  subst h; subst hx
  unfold bpJ; rw [kj2, kf9, kc9]; rfl
theorem v1x {d : Int} {xs ys : List Bx} {i j : Nat} {o : List Int} (h : bpJ d xs ys i j = o) (hj : j = ka0 ys) : bpS d xs ys (i + 1) = o := by
  subst hj; exact h
def blM (l : List Int) (n : Nat) : Nat → Int
  | 0 => 15
  | i + 1 => if nQ l n (14 - (i : Int)) = false ∧ uG (14 - (i : Int)) ≤ uG (blM l n i) then 14 - (i : Int) else blM l n i
theorem v59 {l : List Int} {n i : Nat} {y x : Int} (h : blM l n i = y) (h2 : nQ l n (14 - (i : Int)) = false) (h3 : uG (14 - (i : Int)) ≤ uG y) (hx : x = 14 - (i : Int)) : blM l n (i + 1) = x := by
  subst h; rw [hx]; exact if_pos ⟨h2, h3⟩
theorem v5b {l : List Int} {n i : Nat} {y : Int} (h : blM l n i = y) (h2 : nQ l n (14 - (i : Int)) = true) : blM l n (i + 1) = y := by
  subst h; exact if_neg fun e => by rw [h2] at e; cases e.1
theorem v5a {l : List Int} {n i : Nat} {y : Int} (h : blM l n i = y) (h3 : ¬ uG (14 - (i : Int)) ≤ uG y) : blM l n (i + 1) = y := by
  subst h; exact if_neg fun e => h3 e.2
theorem v1v (l : List Int) (n : Nat) (hn : 1 ≤ n) : ∀ i, blM l n i = bX l n i
  | 0 => rfl
  | i + 1 => by
    rw [blM, bX, v1v l n hn i]
    by_cases e : nQ l n (14 - (i : Int)) = false ∧ uG (14 - (i : Int)) ≤ uG (bX l n i)
    · rw [if_pos e, if_pos ⟨hn, e⟩]
    · rw [if_neg e, if_neg fun e2 => e e2.2]
def blN (d : Int) (xs ys : List Bx) : Int := if ka0 xs = 0 then 15 else blM (bpS d xs ys (ka0 xs)) (ka0 (bpS d xs ys (ka0 xs))) 14
theorem v5d {d : Int} {xs ys : List Bx} (h : ka0 xs = 0) : 15 = blN d xs ys := (if_pos h).symm
theorem v5c {d : Int} {xs ys : List Bx} {o : List Int} {i n z : Nat} {y : Int} (h : ¬ ka0 xs = 0) (ho : bpS d xs ys i = o) (hi : i = ka0 xs) (hn : ka0 o = n) (hy : blM o n z = y) (hz : z = 14) : y = blN d xs ys := by
  subst hi; subst hn; subst hz; unfold blN; rw [if_neg h, ho, hy]
theorem u3e {d : Int} {xs ys : List Bx} (h : BsW xs) (i : Nat) {o : List Bx} (ho : BsW o) : ∀ j, BsW (rjL d xs ys i o j)
  | 0 => ho
  | j + 1 => (u3e h i ho j).app (u3s (BsW.one (h.box i)))
theorem u3f {d : Int} {xs ys : List Bx} (h : BsW xs) : ∀ i, BsW (nK d xs ys i)
  | 0 => BsW.nil
  | i + 1 => u3e h i (u3f h i) _
theorem u9o {xs ys : List Bx} (h : BsW xs) (_ : BsW ys) (d : Int) : BsW (bT d xs ys) := by
  unfold bT; split
  · exact k59 (u3f h _)
  · exact BsW.nil
theorem k5b (d : Int) (xs ys : List Bx) : ka0 (bT d xs ys) ≤ 64 := by
  unfold bT; split
  · exact zS _
  · exact kd7 _
theorem k17 (d : Int) (xs ys : List Bx) : 0 ≤ iN d xs ys ∧ iN d xs ys ≤ 3 := by
  have := gT (nK d xs ys (ka0 xs))
  unfold iN; split <;> omega
def yF (ps : List Pt) : Nat → List Bx
  | 0 => aZ (qF ps 0)
  | i + 1 => bT (q6 ps i) (qF ps (i + 1)) (yF ps i)
def fwE (ps : List Pt) : Nat → Int
  | 0 => 0
  | i + 1 => iN (q6 ps i) (qF ps (i + 1)) (yF ps i)
def fwB (ps : List Pt) : Nat → Int
  | 0 => 15
  | i + 1 => blN (q6 ps i) (qF ps (i + 1)) (yF ps i)
theorem k1z {ps : List Pt} (h : PsW ps) : ∀ i, BsW (yF ps i)
  | 0 => k59 (h.get 0).1
  | i + 1 => u9o (h.get _).1 (k1z h i) _
theorem k7a (ps : List Pt) : ∀ i, ka0 (yF ps i) ≤ 64
  | 0 => zS _
  | i + 1 => k5b _ _ _
def fY (ps : List Pt) (n : Nat) : List (List Bx) := (kd0 n).map (yF ps)
theorem q5 (ps : List Pt) (n : Nat) : ka0 (fY ps n) = n := by unfold fY; rw [List.length_map, List.length_range]
theorem v1b (ps : List Pt) (n : Nat) : fY ps (n + 1) = fY ps n ++ [yF ps n] := by unfold fY; rw [kj2, kf9]; rfl
theorem u41 {ps : List Pt} {n i : Nat} (h : i < n) : d7 (fY ps n) i = yF ps i := by
  unfold d7 fY
  rw [ka6, ke6, List.getElem?_range h]; rfl
theorem k1y {ps : List Pt} {n i : Nat} (h : i < n) : (v8 (fY ps n))[i]? = some (D.sl (kP (yF ps i)) (ka0 (yF ps i))) := by
  rw [u2i _ _ (by rw [q5]; exact h), u41 h]
theorem v1c {ps : List Pt} (h : PsW ps) (n : Nat) : BzW (fY ps n) := fun l hl => by
  obtain ⟨i, _, rfl⟩ := List.mem_map.1 hl
  exact ⟨k1z h i, k7a ps i⟩
def xX (ps : List Pt) (j : Nat) : Bool := decide (¬ fwE ps j = 0 ∨ ka0 (yF ps j) = 0)
def oX (ps : List Pt) : Nat → Int := jV (xX ps)
theorem u8q {ps : List Pt} {j : Nat} (h : fwE ps j = 0) (h2 : ¬ ka0 (yF ps j) = 0) : xX ps j = false := decide_eq_false fun e => e.elim (fun a => a h) h2
theorem u8p {ps : List Pt} {j : Nat} (h : ¬ fwE ps j = 0 ∨ ka0 (yF ps j) = 0) : xX ps j = true := decide_eq_true h
def fwX (ps : List Pt) : Nat := (oX ps (ka0 ps)).toNat
def fwO (ps : List Pt) : Bool := cM ps && decide (oX ps (ka0 ps) < 0)
def uL (ps : List Pt) : List (List Bx) := if fwO ps = true then fY ps (ka0 ps) else []
def uK (ps : List Pt) : Int := if cM ps = true then (if oX ps (ka0 ps) < 0 then 0 else if fwE ps (fwX ps) = 0 then 13 else fwE ps (fwX ps)) else 1
def cK (ps : List Pt) : Int := if uK ps = 13 then (fwX ps : Int) else 0
def cL (ps : List Pt) : Int := if uK ps = 13 then fwB ps (fwX ps) else 0
theorem u73 {ps : List Pt} (h : cM ps = false) : uL ps = [] ∧ cK ps = 0 ∧ cL ps = 0 ∧ uK ps = 1 := by
  have e : uK ps = 1 := by unfold uK; rw [h]; rfl
  unfold uL fwO cK cL; rw [e, h]; exact ⟨rfl, rfl, rfl, rfl⟩
theorem u3x {ps : List Pt} {i : Nat} (h : cM ps = true) (hk : oX ps i = -1) (hi : i = ka0 ps) : uL ps = fY ps (ka0 ps) ∧ cK ps = 0 ∧ cL ps = 0 ∧ uK ps = 0 := by
  subst hi
  have e : uK ps = 0 := by unfold uK; rw [h, hk]; rfl
  unfold uL fwO cK cL; rw [e, h, hk]; exact ⟨rfl, rfl, rfl, rfl⟩
theorem u3y {ps : List Pt} {i : Nat} (hk : oX ps i = -1) (hi : i < ka0 ps) (hb : xX ps i = true) : oX ps (ka0 ps) = (i : Int) ∧ fwX ps = i := by
  have e : oX ps (ka0 ps) = (i : Int) := dW hk hb _ hi
  exact ⟨e, by unfold fwX; rw [e]; rfl⟩
theorem u72 {ps : List Pt} {i : Nat} (h : cM ps = true) (hk : oX ps i = -1) (hi : i < ka0 ps) (hb : ¬ fwE ps i = 0) (hr : fwE ps i ≤ 3) : uL ps = [] ∧ cK ps = 0 ∧ cL ps = 0 ∧ uK ps = fwE ps i := by
  obtain ⟨e1, e2⟩ := u3y hk hi (u8p (.inl hb))
  have e : uK ps = fwE ps i := by
    unfold uK; rw [h, e1, e2, if_pos rfl, if_neg (by omega), if_neg hb]
  have hne : ¬ uK ps = 13 := by rw [e]; omega
  exact ⟨by unfold uL fwO; rw [h, e1, decide_eq_false (by omega)]; rfl, if_neg hne, if_neg hne, e⟩
theorem r7 {ps : List Pt} {i : Nat} (h : cM ps = true) (hk : oX ps i = -1) (hi : i < ka0 ps) (hb : fwE ps i = 0) (h2 : ka0 (yF ps i) = 0) : uL ps = [] ∧ cK ps = (i : Int) ∧ cL ps = fwB ps i ∧ uK ps = 13 := by
  obtain ⟨e1, e2⟩ := u3y hk hi (u8p (.inr h2))
  have e : uK ps = 13 := by
    unfold uK; rw [h, e1, e2, if_pos rfl, if_neg (by omega), if_pos hb]
  exact ⟨by unfold uL fwO; rw [h, e1, decide_eq_false (by omega)]; rfl, by unfold cK; rw [if_pos e, e2], by unfold cL; rw [if_pos e, e2], e⟩
theorem aE {d b : Int} {r r2 : List Int} {n n2 : Nat} (h : r.length = n * 2) (h2 : r2.length = n2 * 2) : ka0 (zL d b r r2) = zN d b n n2 * 2 := by
  unfold zL zN; split <;> assumption
theorem dB {d b : Int} {n n2 K : Nat} (h : n ≤ K) (h2 : n2 ≤ K) : zN d b n n2 ≤ K := by unfold zN; split <;> assumption
theorem nG {d b : Int} {m m2 : List (List Int)} (h : MsW m) (h2 : MsW m2) : MsW (zM d b m m2) := by unfold zM; split <;> assumption
theorem fT {d b : Int} {m m2 : List (List Int)} {c c2 K : Nat} (h : m.length = c) (h2 : m2.length = c2) (h3 : c ≤ K) (h4 : c2 ≤ K) : ka0 (zM d b m m2) ≤ K := by unfold zM; split <;> omega
theorem k0n {k : Int} {r : List Int} {rn : Nat} {m : List (List Int)} {s : List Int} {sn : Nat} {c : Nat} (h : r.length = rn * 2) (h2 : s.length = sn * 2) (h3 : rn ≤ 1000000) (h4 : sn ≤ 1000000) (h5 : m.length = c) (h6 : c ≤ 1000000) (h7 : MsW m) : BsW [kE k r rn m s sn] := BsW.one ⟨h, h2, h3, h4, by show m.length ≤ _; omega, h7⟩
theorem RJ.y2 {d : Int} {xs ys : List Bx} {i j p : Nat} {o : List Bx} (h : RJ d xs ys i j o) (h1 : mxE d xs ys i j = 0) (hp : o.length = p) (h2 : ¬ 64 < (p : Int) + ((ka0 (lF d xs ys i j) : Nat) : Int)) : RJ d xs ys i (j + 1) (o ++ lF d xs ys i j) := h.y h1 (by omega)
theorem u3h {d : Int} {xs ys o : List Bx} {i j p : Nat} (h : RJ d xs ys i j o) (hi : i < ka0 xs) (hj : j < ka0 ys) (hp : o.length = p) (h1 : ¬ mxE d xs ys i j = 0 ∨ 64 < (p : Int) + ((ka0 (lF d xs ys i j) : Nat) : Int)) : bT d xs ys = [] ∧ iN d xs ys = 3 := v3q h hi hj (by omega)
theorem k67 {d : Int} {xs ys : List Bx} (h : BsW xs) (i j : Nat) : BsW (lF d xs ys i j) := u3s (BsW.one (h.box i))
def agL (d : Int) (xs ys : List Bx) : Nat → List Bx
  | 0 => []
  | i + 1 => agL d xs ys i ++ ((kd0 (ka0 xs)).map fun j => lF d xs ys j i).flatten
def agJ (d : Int) (xs ys : List Bx) (i j : Nat) : List Bx := agL d xs ys i ++ ((kd0 j).map fun j => lF d xs ys j i).flatten
def n4 (d : Int) (xs ys : List Bx) : List Bx := agL d xs ys (ka0 ys)
theorem k9q {d : Int} {xs ys : List Bx} {i : Nat} {o : List Bx} (h : agL d xs ys i = o) : agJ d xs ys i 0 = o := by
  unfold agJ; rw [h]; exact ke2 _
theorem k9o {d : Int} {xs ys : List Bx} {i j : Nat} {o : List Bx} (h : agJ d xs ys i j = o) : agJ d xs ys i (j + 1) = o ++ lF d xs ys j i := by
  subst h; unfold agJ
  rw [kj2, kf9, List.flatten_append, kc9]
  show _ ++ (_ ++ (lF d xs ys j i ++ [])) = _
  rw [ke2]
theorem u55 {d : Int} {xs ys : List Bx} {i j : Nat} {o : List Bx} (h : agJ d xs ys i j = o) (hj : j = ka0 xs) : agL d xs ys (i + 1) = o := by
  subst hj; exact h
theorem k9p {d : Int} {xs ys : List Bx} {i : Nat} : ∀ j, ka0 (agJ d xs ys i j) ≤ ka0 (agL d xs ys i) + j * 64
  | 0 => by rw [k9q rfl]; omega
  | j + 1 => by
    have h1 := k9p (d := d) (xs := xs) (ys := ys) (i := i) j
    have h2 : ka0 (lF d xs ys j i) ≤ 64 := rW _ _
    rw [k9o rfl, ka8]; omega
theorem k9n {d : Int} {xs ys : List Bx} {n : Nat} (h : n ≤ 64) (hn : ka0 xs = n) (h2 : ka0 ys ≤ 1) : ka0 (n4 d xs ys) ≤ 4096 := by
  unfold n4
  match h3 : ka0 ys, h2 with
  | 0, _ => exact kd7 _
  | 1, _ =>
    have := k9p (d := d) (xs := xs) (ys := ys) (i := 0) (ka0 xs)
    have h4 : ka0 (agL d xs ys 0) = 0 := rfl
    show ka0 (agJ d xs ys 0 (ka0 xs)) ≤ _
    omega
theorem u40 {ps : List Pt} (h : PsW ps) : BzW (uL ps) := by
  unfold uL; split
  · exact v1c h _
  · exact BzW.nil
theorem v35 {ps : List Pt} {j : Nat} (h : ¬ fwE ps j ≠ 0) (h2 : ¬ ((ka0 (yF ps j) : Nat) : Int) = 0) : xX ps j = false := u8q (Decidable.of_not_not h) (by omega)
theorem v36 {ps : List Pt} (h2 : ¬ ((ka0 (yF ps 0) : Nat) : Int) = 0) : oX ps 1 = -1 := bQ (p := xX ps) (k := 0) rfl (u8q rfl (by omega))
theorem k79 {ps : List Pt} (h : cM ps = true) (h2 : ((ka0 (yF ps 0) : Nat) : Int) = 0) : uL ps = [] ∧ cK ps = 0 ∧ cL ps = 15 ∧ uK ps = 13 := r7 (i := 0) h rfl (k27 h).1 rfl (by omega)
theorem k78 {ps : List Pt} {i : Nat} (h : cM ps = true) (hk : oX ps (i + 1) = -1) (hi : i + 1 < ka0 ps) (hb : ¬ fwE ps (i + 1) ≠ 0) (h2 : ((ka0 (yF ps (i + 1)) : Nat) : Int) = 0) : uL ps = [] ∧ cK ps = ((i : Nat) : Int) + 1 ∧ cL ps = blN (q6 ps i) (qF ps (i + 1)) (yF ps i) ∧ uK ps = 13 := r7 (i := i + 1) h hk hi (Decidable.of_not_not hb) (by omega)
theorem u2q (a : Int) : zA (kE 4 [a, a] 1 [[3]] [64, 64] 1) := ⟨rfl, rfl, (by decide : 1 ≤ 1000000), (by decide : 1 ≤ 1000000), (by decide : 1 ≤ 1000000), fun l hl => by rw [List.mem_singleton.1 hl]; exact (by decide : 1 ≤ 1000000)⟩
theorem u3l {x y : Bx} {d e : Int} (hx : zA x) (hy : zA y) : PsW [u0 [x] d, u0 [y] e] := fun p hp => by
  rcases List.mem_cons.1 hp with rfl | hp
  · exact ⟨BsW.one hx, (by decide : 1 ≤ 1000)⟩
  · rw [List.mem_singleton.1 hp]; exact ⟨BsW.one hy, (by decide : 1 ≤ 1000)⟩
end Go.Proofs.YtbicifcgghmhaaaGreat
