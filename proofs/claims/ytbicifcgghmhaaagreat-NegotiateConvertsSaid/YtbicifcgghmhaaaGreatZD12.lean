/- Chains of ports as data. No statement is proved here. -/
import Derived.Test.YtbicifcgghmhaaaGreatZU10
namespace Go.Proofs.YtbicifcgghmhaaaGreat
open Go.ChangeShapes Go.WideShapes Go.ChangeAt Go.RowKit
open List renaming append_assoc → kd1, append_nil → kd6, drop → ka3, drop_drop → kc8, getD_eq_getElem?_getD → ka8, getElem?_drop → ke4, getElem?_eq_getElem → ka7, getElem?_map → ke7, length → ka0, length_append → ka6, map_append → kg1, mem_of_getElem? → ke3, range → kd3, range_succ → kj4
open Nat renaming add_zero → kj2, zero_le → ke2
set_option linter.unusedVariables false
set_option linter.unusedSimpArgs false
/-! chapter 12: ports as data, lists of lists of boxes -/
structure Pt where
  bs : List Bx
  cv : Int
def pt0 : Pt := ⟨[], 0⟩
def e8 (b : List Bx) (c : Int) : Pt := ⟨b, c⟩
def ptR (p : Pt) : List D := [D.sl (kU p.bs) p.bs.length, D.lit (.int .i64 p.cv)]
def qU : List Pt → List D
  | [] => []
  | p :: r => ptR p ++ qU r
theorem q5 : ∀ xs : List Pt, ka0 (qU xs) = ka0 xs * 2
  | [] => rfl
  | b :: r => by show ka0 (ptR b ++ qU r) = (ka0 r + 1) * 2; rw [ka6, q5 r]; show 2 + _ = _; omega
theorem k2b : ∀ a b : List Pt, qU (a ++ b) = qU a ++ qU b
  | [], _ => rfl
  | l :: r, b => by show ptR l ++ qU (r ++ b) = ptR l ++ qU r ++ qU b; rw [k2b r b, kd1]
theorem iT : ∀ (i : Nat) (xs : List Pt), ka3 (i * 2) (qU xs) = qU (ka3 i xs)
  | 0, _ => rfl
  | i + 1, [] => by simp [qU]
  | i + 1, l :: r => by
    show ka3 ((i + 1) * 2) (ptR l ++ qU r) = qU (ka3 i r)
    rw [show (i + 1) * 2 = 2 + i * 2 by omega, ← kc8, ← iT i r]; rfl
def ptG (xs : List Pt) (i : Nat) : Pt := List.getD xs i pt0
def q7 (xs : List Pt) (i : Nat) : List Bx := (ptG xs i).bs
def qP (xs : List Pt) (i : Nat) : Int := (ptG xs i).cv
theorem sD {xs : List Pt} {i : Nat} (h : i < ka0 xs) : qU (ka3 i xs) = ptR (ptG xs i) ++ qU (ka3 (i + 1) xs) := by
  have e : ptG xs i = xs[i] := by unfold ptG; rw [ka8, ka7 h]; rfl
  rw [List.drop_eq_getElem_cons h, e]; rfl
theorem u49 {xs : List Pt} {i : Nat} (h : i < ka0 xs) : List.take 2 (ka3 (i * 2) (qU xs)) = [D.sl (kU (q7 xs i)) (ka0 (q7 xs i)), D.lit (.int .i64 (qP xs i))] := by
  rw [iT, sD h]; rfl
theorem oU {xs : List Pt} {i : Nat} (h : i < ka0 xs) : (ka3 (i * 2) (qU xs))[0]? = some (D.sl (kU (q7 xs i)) (ka0 (q7 xs i))) := by
  rw [iT, sD h]; rfl
theorem k0s {xs : List Pt} {i : Nat} (h : i < ka0 xs) : (ka3 (i * 2 + 1) (qU xs))[0]? = some (D.lit (.int .i64 (qP xs i))) := by
  rw [← kc8, iT, sD h]; rfl
theorem v0e {xs : List Pt} {i : Nat} (h : i < ka0 xs) : (qU xs)[i * 2 + 1]? = some (D.lit (.int .i64 (qP xs i))) := by
  rw [← k0s h, ke4, kj2]
theorem u1k (xs : List Pt) (b : List Bx) (n : Nat) (c : Int) (h : b.length = n) : qU xs ++ [D.sl (kU b) n, D.lit (.int .i64 c)] = qU (xs ++ [e8 b c]) := by
  subst h; rw [k2b]; rfl
def PsW (xs : List Pt) : Prop := ∀ p ∈ xs, BsW p.bs ∧ ka0 p.bs ≤ 1000
theorem PsW.get {xs : List Pt} (h : PsW xs) (i : Nat) : BsW (q7 xs i) ∧ ka0 (q7 xs i) ≤ 1000 := by
  unfold q7 ptG
  rw [ka8]
  cases e : xs[i]? with
  | none => exact ⟨BsW.nil, ke2 _⟩
  | some l => exact h l (ke3 e)
theorem PsW.nil : PsW [] := fun l h => by cases h
theorem PsW.take {xs : List Pt} (h : PsW xs) (n : Nat) : PsW (List.take n xs) := fun m hm => h m (List.mem_of_mem_take hm)
theorem PsW.app {xs ys : List Pt} (h : PsW xs) (h2 : PsW ys) : PsW (xs ++ ys) := fun m hm => (List.mem_append.1 hm).elim (h m) (h2 m)
theorem PsW.one {b : List Bx} {c : Int} (h : BsW b) (h2 : ka0 b ≤ 1000) : PsW [e8 b c] := fun m hm => by rw [List.mem_singleton.1 hm]; exact ⟨h, h2⟩
def aH (xs : List (List Bx)) : List D := xs.map fun l => D.sl (kU l) l.length
theorem q8 (xs : List (List Bx)) : ka0 (aH xs) = ka0 xs := by unfold aH; simp
theorem u37 (xs : List (List Bx)) (l : List Bx) (n : Nat) (h : l.length = n) : aH xs ++ [D.sl (kU l) n] = aH (xs ++ [l]) := by subst h; unfold aH; simp
def kG (xs : List (List Bx)) (i : Nat) : List Bx := List.getD xs i []
theorem k1o (xs : List (List Bx)) (i : Nat) (h : i < xs.length) : (ka3 i (aH xs))[0]? = some (D.sl (kU (kG xs i)) (ka0 (kG xs i))) := by
  unfold aH kG
  rw [ke4, kj2, ke7, ka7 h, ka8, ka7 h]; rfl
theorem u36 (xs : List (List Bx)) (i : Nat) (h : i < xs.length) : (aH xs)[i]? = some (D.sl (kU (kG xs i)) (ka0 (kG xs i))) := by
  rw [← k1o xs i h, ke4, kj2]
def BzW (xs : List (List Bx)) : Prop := ∀ l ∈ xs, BsW l ∧ ka0 l ≤ 64
theorem BzW.get {xs : List (List Bx)} (h : BzW xs) (i : Nat) : BsW (kG xs i) ∧ ka0 (kG xs i) ≤ 64 := by
  unfold kG; rw [ka8]
  cases e : xs[i]? with
  | none => exact ⟨BsW.nil, ke2 _⟩
  | some l => exact h l (ke3 e)
theorem BzW.nil : BzW [] := fun l h => by cases h
theorem BzW.snoc {xs : List (List Bx)} {l : List Bx} (h : BzW xs) (h2 : BsW l) (h3 : ka0 l ≤ 64) : BzW (xs ++ [l]) := fun m hm => (List.mem_append.1 hm).elim (h m) fun hm => by
  rw [List.mem_singleton.1 hm]; exact ⟨h2, h3⟩
def wQ (b : List Bx) (c : Int) : Bool := decide (ka0 b ≤ 8 ∧ 0 ≤ c ∧ c ≤ 15) && c8 b
theorem u9d {b : List Bx} {c : Int} (h : ka0 b ≤ 8 ∧ 0 ≤ c ∧ c ≤ 15) (h2 : c8 b = true) : wQ b c = true := by unfold wQ; rw [decide_eq_true h, h2]; rfl
theorem v3g {b : List Bx} {c : Int} (h : ¬ (ka0 b ≤ 8 ∧ 0 ≤ c ∧ c ≤ 15)) : wQ b c = false := by unfold wQ; rw [decide_eq_false h]; rfl
theorem v3h {b : List Bx} {c : Int} (h2 : c8 b = false) : wQ b c = false := by unfold wQ; rw [h2, Bool.and_false]
def vpE (xs : List Pt) (i : Nat) : Bool := wQ (q7 xs i) (qP xs i)
def nvB (b : List Bx) (c : Int) : Bool := !(wQ b c)
theorem u71 {b : List Bx} {c : Int} (h : wQ b c = false) : nvB b c = true := by unfold nvB; rw [h]; rfl
theorem v0s {b : List Bx} {c : Int} (h : wQ b c = true) : nvB b c = false := by unfold nvB; rw [h]; rfl
def nvK (xs : List Pt) : Nat → Int := lZ fun j => nvB (q7 xs j) (qP xs j)
theorem v0t {xs : List Pt} {k : Nat} (h : nvK xs k = -1) (h2 : nvB (q7 xs k) (qP xs k) = false) : nvK xs (k + 1) = -1 := cD h h2
theorem u4e {xs : List Pt} {k : Nat} (h : nvK xs k = -1) (h2 : nvB (q7 xs k) (qP xs k) = true) {n : Nat} (hn : k < n) : nvK xs n = (k : Int) := eU h h2 n hn
def dT (xs : List Pt) : Bool := decide (1 ≤ xs.length ∧ xs.length ≤ 16 ∧ ∀ i, i < xs.length → vpE xs i = true)
def nvA (xs : List Pt) : Bool := decide (∃ i, i < xs.length ∧ vpE xs i = false)
theorem u4f {xs : List Pt} {n : Nat} (hn : xs.length = n) (h : 0 ≤ nvK xs n) : nvA xs = true := by
  obtain ⟨k, hk, h1⟩ := pZ h
  exact decide_eq_true ⟨k, by omega, by simpa [nvB, vpE] using h1⟩
theorem u4g {xs : List Pt} {n : Nat} (hn : xs.length = n) (h : ¬ 0 ≤ nvK xs n) : nvA xs = false := decide_eq_false fun ⟨k, hk, e⟩ => by
  have h1 := lH h k (by omega)
  have h1 : nvB (q7 xs k) (qP xs k) = false := h1
  rw [u71 e] at h1; cases h1
theorem v1w {xs : List Pt} (h : 1 ≤ xs.length ∧ xs.length ≤ 16) (h2 : nvA xs = false) : dT xs = true := decide_eq_true ⟨h.1, h.2, fun i hi => by
  cases e : vpE xs i with
  | true => rfl
  | false => exact absurd ⟨i, hi, e⟩ (of_decide_eq_false h2)⟩
theorem v1x {xs : List Pt} (h : ¬ (1 ≤ xs.length ∧ xs.length ≤ 16)) : dT xs = false := decide_eq_false fun e => h ⟨e.1, e.2.1⟩
theorem v1y {xs : List Pt} (h : nvA xs = true) : dT xs = false := decide_eq_false fun e => by
  obtain ⟨i, hi, h1⟩ := of_decide_eq_true h
  rw [e.2.2 i hi] at h1; cases h1
theorem k3f {xs : List Pt} (h : dT xs = true) : 1 ≤ xs.length ∧ xs.length ≤ 16 := ⟨(of_decide_eq_true h).1, (of_decide_eq_true h).2.1⟩
/-! what is reached -/
def mzB (d : Int) (xs ys : List Bx) (i j : Nat) : Bx := kD (zK d (kT ys j) (kT xs i)) (zL d 2 (qE ys j) (qE xs i)) (zN d 2 (k9 ys j) (k9 xs i)) (zM d 4 (kW ys j) (kW xs i)) (zL d 8 (qD ys j) (qD xs i)) (zN d 8 (k8 ys j) (k8 xs i))
def o3 (d : Int) (xs ys : List Bx) (i j : Nat) : List Bx := yS [bxP xs i] [mzB d xs ys i j]
def mxE (d : Int) (xs ys : List Bx) (i j : Nat) : Int := fD [bxP xs i] [mzB d xs ys i j]
def rjL (d : Int) (xs ys : List Bx) (i : Nat) (o : List Bx) : Nat → List Bx
  | 0 => o
  | j + 1 => rjL d xs ys i o j ++ o3 d xs ys i j
def oR (d : Int) (xs ys : List Bx) : Nat → List Bx
  | 0 => []
  | i + 1 => rjL d xs ys i (oR d xs ys i) (ka0 ys)
def rjB (d : Int) (xs ys : List Bx) (i : Nat) (b : Bool) : Nat → Bool
  | 0 => b
  | j + 1 => rjB d xs ys i b j && decide (mxE d xs ys i j = 0 ∧ ka0 (rjL d xs ys i (oR d xs ys i) j) + ka0 (o3 d xs ys i j) ≤ 64)
def riB (d : Int) (xs ys : List Bx) : Nat → Bool
  | 0 => true
  | i + 1 => rjB d xs ys i (riB d xs ys i) (ka0 ys)
theorem k26 (d : Int) (xs ys : List Bx) (i : Nat) (b : Bool) (j : Nat) : ∀ k, rjB d xs ys i b j = false → rjB d xs ys i b (j + k) = false
  | 0, h => h
  | k + 1, h => by
    show (rjB d xs ys i b (j + k) && _) = false
    rw [k26 d xs ys i b j k h]; rfl
theorem u9w (d : Int) (xs ys : List Bx) (i : Nat) : ∀ k, rjB d xs ys i false k = false
  | 0 => rfl
  | k + 1 => by
    show (rjB d xs ys i false k && _) = false
    rw [u9w d xs ys i k]; rfl
theorem k27 (d : Int) (xs ys : List Bx) (i : Nat) : ∀ k, riB d xs ys i = false → riB d xs ys (i + k) = false
  | 0, h => h
  | k + 1, h => by
    show rjB d xs ys (i + k) (riB d xs ys (i + k)) _ = false
    rw [k27 d xs ys i k h]; exact u9w ..
def RI (d : Int) (xs ys : List Bx) (i : Nat) (o : List Bx) : Prop := oR d xs ys i = o ∧ riB d xs ys i = true
def RJ (d : Int) (xs ys : List Bx) (i j : Nat) (o : List Bx) : Prop := rjL d xs ys i (oR d xs ys i) j = o ∧ rjB d xs ys i (riB d xs ys i) j = true
theorem RI.zero (d : Int) (xs ys : List Bx) : RI d xs ys 0 [] := ⟨rfl, rfl⟩
theorem RI.in {d : Int} {xs ys : List Bx} {i : Nat} {o : List Bx} (h : RI d xs ys i o) : RJ d xs ys i 0 o := h
theorem RJ.out {d : Int} {xs ys : List Bx} {i j : Nat} {o : List Bx} (h : RJ d xs ys i j o) (hj : j = ka0 ys) : RI d xs ys (i + 1) o := by subst hj; exact h
theorem RJ.y {d : Int} {xs ys : List Bx} {i j : Nat} {o : List Bx} (h : RJ d xs ys i j o) (h1 : mxE d xs ys i j = 0) (h2 : ka0 o + ka0 (o3 d xs ys i j) ≤ 64) : RJ d xs ys i (j + 1) (o ++ o3 d xs ys i j) := by
  refine ⟨?_, ?_⟩
  · show rjL d xs ys i (oR d xs ys i) j ++ _ = _
    rw [h.1]
  · show (rjB d xs ys i (riB d xs ys i) j && decide _) = true
    rw [h.2, decide_eq_true ⟨h1, by rw [h.1]; exact h2⟩]; rfl
def cF (d : Int) (xs ys : List Bx) : List Bx := if riB d xs ys (ka0 xs) = true then bE (oR d xs ys (ka0 xs)) else []
def jP (d : Int) (xs ys : List Bx) : Int := if riB d xs ys (ka0 xs) = true then jO (oR d xs ys (ka0 xs)) else 3
theorem v3m {d : Int} {xs ys o : List Bx} {i : Nat} (h : RI d xs ys i o) (hi : i = ka0 xs) : cF d xs ys = bE o ∧ jP d xs ys = jO o := by
  subst hi; unfold cF jP; rw [h.1, h.2]; exact ⟨rfl, rfl⟩
theorem v3n {d : Int} {xs ys o : List Bx} {i j : Nat} (h : RJ d xs ys i j o) (hi : i < ka0 xs) (hj : j < ka0 ys) (h1 : ¬ (mxE d xs ys i j = 0 ∧ ka0 o + ka0 (o3 d xs ys i j) ≤ 64)) : cF d xs ys = [] ∧ jP d xs ys = 3 := by
  have a1 : rjB d xs ys i (riB d xs ys i) (j + 1) = false := by
    show (_ && decide _) = false
    rw [decide_eq_false (by rw [h.1]; exact h1), Bool.and_false]
  have a2 := k26 d xs ys i (riB d xs ys i) (j + 1) (ka0 ys - (j + 1)) a1
  rw [show j + 1 + (ka0 ys - (j + 1)) = ka0 ys by omega] at a2
  have a3 := k27 d xs ys (i + 1) (ka0 xs - (i + 1)) a2
  rw [show i + 1 + (ka0 xs - (i + 1)) = ka0 xs by omega] at a3
  unfold cF jP; rw [a3]; exact ⟨rfl, rfl⟩
/-! chapter 12: what is shared, what is blamed, what is reached -/
def aD (a b : Int) : Int := qM .or .i64 a b
def oP (d b w : Int) : Int := if b = 0 then aD d w else d
theorem gL {d b w : Int} (h : b = 0) : aD d w = oP d b w := (if_pos h).symm
theorem gM {d b w : Int} (h : ¬ b = 0) : d = oP d b w := (if_neg h).symm
def seV (e : Int) (k : Int) (r : List Int) (rn : Nat) (m : List (List Int)) (s : List Int) (sn : Nat) (k2 : Int) (r2 : List Int) (rn2 : Nat) (m2 : List (List Int)) (s2 : List Int) (sn2 : Nat) : Int := vV [kD k r rn m s sn] [kD (zK e k2 k) (zL e 2 r2 r) (zN e 2 rn2 rn) (zM e 4 m2 m) (zL e 8 s2 s) (zN e 8 sn2 sn)]
def aT (d : Int) (k : Int) (r : List Int) (rn : Nat) (m : List (List Int)) (s : List Int) (sn : Nat) (k2 : Int) (r2 : List Int) (rn2 : Nat) (m2 : List (List Int)) (s2 : List Int) (sn2 : Nat) : Nat → Int
  | 0 => d
  | 1 => oP d (seV 14 k r rn m s sn k2 r2 rn2 m2 s2 sn2) 1
  | 2 => oP (oP d (seV 14 k r rn m s sn k2 r2 rn2 m2 s2 sn2) 1) (seV 13 k r rn m s sn k2 r2 rn2 m2 s2 sn2) 2
  | 3 => oP (oP (oP d (seV 14 k r rn m s sn k2 r2 rn2 m2 s2 sn2) 1) (seV 13 k r rn m s sn k2 r2 rn2 m2 s2 sn2) 2) (seV 11 k r rn m s sn k2 r2 rn2 m2 s2 sn2) 4
  | _ => oP (oP (oP (oP d (seV 14 k r rn m s sn k2 r2 rn2 m2 s2 sn2) 1) (seV 13 k r rn m s sn k2 r2 rn2 m2 s2 sn2) 2) (seV 11 k r rn m s sn k2 r2 rn2 m2 s2 sn2) 4) (seV 7 k r rn m s sn k2 r2 rn2 m2 s2 sn2) 8
def shW (d : Int) (xs ys : List Bx) (i j : Nat) : Int := aT d (kT xs i) (qE xs i) (k9 xs i) (kW xs i) (qD xs i) (k8 xs i) (kT ys j) (qE ys j) (k9 ys j) (kW ys j) (qD ys j) (k8 ys j) 4
def bpS (d : Int) (xs ys : List Bx) : Nat → List Int
  | 0 => []
  | i + 1 => bpS d xs ys i ++ (kd3 (ka0 ys)).map (shW d xs ys i)
def bpJ (d : Int) (xs ys : List Bx) (i j : Nat) : List Int := bpS d xs ys i ++ (kd3 j).map (shW d xs ys i)
theorem v27 {d : Int} {xs ys : List Bx} {i : Nat} {o : List Int} (h : bpS d xs ys i = o) : bpJ d xs ys i 0 = o := by
  unfold bpJ; rw [h]; exact kd6 _
theorem v25 {d : Int} {xs ys : List Bx} {i j : Nat} {o : List Int} {x : Int} (h : bpJ d xs ys i j = o) (hx : x = shW d xs ys i j) : bpJ d xs ys i (j + 1) = o ++ [x] := by
  subst h; subst hx
  unfold bpJ; rw [kj4, kg1, kd1]; rfl
theorem v26 {d : Int} {xs ys : List Bx} {i j : Nat} {o : List Int} (h : bpJ d xs ys i j = o) (hj : j = ka0 ys) : bpS d xs ys (i + 1) = o := by
  subst hj; exact h
def blM (l : List Int) (n : Nat) : Nat → Int
  | 0 => 15
  | i + 1 => if o4 l n (14 - (i : Int)) = false ∧ uO (14 - (i : Int)) ≤ uO (blM l n i) then 14 - (i : Int) else blM l n i
theorem u8h {l : List Int} {n i : Nat} {y x : Int} (h : blM l n i = y) (h2 : o4 l n (14 - (i : Int)) = false) (h3 : uO (14 - (i : Int)) ≤ uO y) (hx : x = 14 - (i : Int)) : blM l n (i + 1) = x := by
  subst h; rw [hx]; exact if_pos ⟨h2, h3⟩
theorem u8j {l : List Int} {n i : Nat} {y : Int} (h : blM l n i = y) (h2 : o4 l n (14 - (i : Int)) = true) : blM l n (i + 1) = y := by
  subst h; exact if_neg fun e => by rw [h2] at e; cases e.1
theorem u8i {l : List Int} {n i : Nat} {y : Int} (h : blM l n i = y) (h3 : ¬ uO (14 - (i : Int)) ≤ uO y) : blM l n (i + 1) = y := by
  subst h; exact if_neg fun e => h3 e.2
theorem v24 (l : List Int) (n : Nat) (hn : 1 ≤ n) : ∀ i, blM l n i = cJ l n i
  | 0 => rfl
  | i + 1 => by
    rw [blM, cJ, v24 l n hn i]
    by_cases e : o4 l n (14 - (i : Int)) = false ∧ uO (14 - (i : Int)) ≤ uO (cJ l n i)
    · rw [if_pos e, if_pos ⟨hn, e⟩]
    · rw [if_neg e, if_neg fun e2 => e e2.2]
def blN (d : Int) (xs ys : List Bx) : Int := if ka0 xs = 0 then 15 else blM (bpS d xs ys (ka0 xs)) (ka0 (bpS d xs ys (ka0 xs))) 14
theorem u3c {d : Int} {xs ys : List Bx} (h : ka0 xs = 0) : 15 = blN d xs ys := (if_pos h).symm
theorem u3b {d : Int} {xs ys : List Bx} {o : List Int} {i n z : Nat} {y : Int} (h : ¬ ka0 xs = 0) (ho : bpS d xs ys i = o) (hi : i = ka0 xs) (hn : ka0 o = n) (hy : blM o n z = y) (hz : z = 14) : y = blN d xs ys := by
  subst hi; subst hn; subst hz; unfold blN; rw [if_neg h, ho, hy]
theorem u43 {d : Int} {xs ys : List Bx} (h : BsW xs) (i : Nat) {o : List Bx} (ho : BsW o) : ∀ j, BsW (rjL d xs ys i o j)
  | 0 => ho
  | j + 1 => (u43 h i ho j).app (u4m (BsW.one (h.box i)))
theorem u44 {d : Int} {xs ys : List Bx} (h : BsW xs) : ∀ i, BsW (oR d xs ys i)
  | 0 => BsW.nil
  | i + 1 => u43 h i (u44 h i) _
theorem v04 {xs ys : List Bx} (h : BsW xs) (_ : BsW ys) (d : Int) : BsW (cF d xs ys) := by
  unfold cF; split
  · exact k65 (u44 h _)
  · exact BsW.nil
theorem k67 (d : Int) (xs ys : List Bx) : ka0 (cF d xs ys) ≤ 64 := by
  unfold cF; split
  · exact k0q _
  · exact ke2 _
theorem k2a (d : Int) (xs ys : List Bx) : 0 ≤ jP d xs ys ∧ jP d xs ys ≤ 3 := by
  have := iS (oR d xs ys (ka0 xs))
  unfold jP; split <;> omega
def y3 (ps : List Pt) : Nat → List Bx
  | 0 => bE (q7 ps 0)
  | i + 1 => cF (qP ps i) (q7 ps (i + 1)) (y3 ps i)
def fwE (ps : List Pt) : Nat → Int
  | 0 => 0
  | i + 1 => jP (qP ps i) (q7 ps (i + 1)) (y3 ps i)
def fwB (ps : List Pt) : Nat → Int
  | 0 => 15
  | i + 1 => blN (qP ps i) (q7 ps (i + 1)) (y3 ps i)
theorem k36 {ps : List Pt} (h : PsW ps) : ∀ i, BsW (y3 ps i)
  | 0 => k65 (h.get 0).1
  | i + 1 => v04 (h.get _).1 (k36 h i) _
theorem k84 (ps : List Pt) : ∀ i, ka0 (y3 ps i) ≤ 64
  | 0 => k0q _
  | i + 1 => k67 _ _ _
def iA (ps : List Pt) (n : Nat) : List (List Bx) := (kd3 n).map (y3 ps)
theorem kX (ps : List Pt) (n : Nat) : ka0 (iA ps n) = n := by unfold iA; rw [List.length_map, List.length_range]
theorem u4v (ps : List Pt) (n : Nat) : iA ps (n + 1) = iA ps n ++ [y3 ps n] := by unfold iA; rw [kj4, kg1]; rfl
theorem v1i {ps : List Pt} {n i : Nat} (h : i < n) : kG (iA ps n) i = y3 ps i := by
  unfold kG iA
  rw [ka8, ke7, List.getElem?_range h]; rfl
theorem k35 {ps : List Pt} {n i : Nat} (h : i < n) : (aH (iA ps n))[i]? = some (D.sl (kU (y3 ps i)) (ka0 (y3 ps i))) := by
  rw [u36 _ _ (by rw [kX]; exact h), v1i h]
theorem v1j {ps : List Pt} (h : PsW ps) (n : Nat) : BzW (iA ps n) := fun l hl => by
  obtain ⟨i, _, rfl⟩ := List.mem_map.1 hl
  exact ⟨k36 h i, k84 ps i⟩
def wdB (ps : List Pt) (j : Nat) : Bool := decide (¬ fwE ps j = 0 ∨ ka0 (y3 ps j) = 0)
def tC (ps : List Pt) : Nat → Int := lZ (wdB ps)
theorem u9c {ps : List Pt} {j : Nat} (h : fwE ps j = 0) (h2 : ¬ ka0 (y3 ps j) = 0) : wdB ps j = false := decide_eq_false fun e => e.elim (fun a => a h) h2
theorem u9b {ps : List Pt} {j : Nat} (h : ¬ fwE ps j = 0 ∨ ka0 (y3 ps j) = 0) : wdB ps j = true := decide_eq_true h
def fwX (ps : List Pt) : Nat := (tC ps (ka0 ps)).toNat
def fwO (ps : List Pt) : Bool := dT ps && decide (tC ps (ka0 ps) < 0)
def kE (ps : List Pt) : List (List Bx) := if fwO ps = true then iA ps (ka0 ps) else []
def vE (ps : List Pt) : Int := if dT ps = true then (if tC ps (ka0 ps) < 0 then 0 else if fwE ps (fwX ps) = 0 then 13 else fwE ps (fwX ps)) else 1
def fA (ps : List Pt) : Int := if vE ps = 13 then (fwX ps : Int) else 0
def fB (ps : List Pt) : Int := if vE ps = 13 then fwB ps (fwX ps) else 0
theorem u7v {ps : List Pt} (h : dT ps = false) : kE ps = [] ∧ fA ps = 0 ∧ fB ps = 0 ∧ vE ps = 1 := by
  have e : vE ps = 1 := by unfold vE; rw [h]; rfl
  unfold kE fwO fA fB; rw [e, h]; exact ⟨rfl, rfl, rfl, rfl⟩
theorem u4t {ps : List Pt} {i : Nat} (h : dT ps = true) (hk : tC ps i = -1) (hi : i = ka0 ps) : kE ps = iA ps (ka0 ps) ∧ fA ps = 0 ∧ fB ps = 0 ∧ vE ps = 0 := by
  subst hi
  have e : vE ps = 0 := by unfold vE; rw [h, hk]; rfl
  unfold kE fwO fA fB; rw [e, h, hk]; exact ⟨rfl, rfl, rfl, rfl⟩
theorem u4u {ps : List Pt} {i : Nat} (hk : tC ps i = -1) (hi : i < ka0 ps) (hb : wdB ps i = true) : tC ps (ka0 ps) = (i : Int) ∧ fwX ps = i := by
  have e : tC ps (ka0 ps) = (i : Int) := eU hk hb _ hi
  exact ⟨e, by unfold fwX; rw [e]; rfl⟩
theorem u7u {ps : List Pt} {i : Nat} (h : dT ps = true) (hk : tC ps i = -1) (hi : i < ka0 ps) (hb : ¬ fwE ps i = 0) (hr : fwE ps i ≤ 3) : kE ps = [] ∧ fA ps = 0 ∧ fB ps = 0 ∧ vE ps = fwE ps i := by
  obtain ⟨e1, e2⟩ := u4u hk hi (u9b (.inl hb))
  have e : vE ps = fwE ps i := by
    unfold vE; rw [h, e1, e2, if_pos rfl, if_neg (by omega), if_neg hb]
  have hne : ¬ vE ps = 13 := by rw [e]; omega
  exact ⟨by unfold kE fwO; rw [h, e1, decide_eq_false (by omega)]; rfl, if_neg hne, if_neg hne, e⟩
theorem tB {ps : List Pt} {i : Nat} (h : dT ps = true) (hk : tC ps i = -1) (hi : i < ka0 ps) (hb : fwE ps i = 0) (h2 : ka0 (y3 ps i) = 0) : kE ps = [] ∧ fA ps = (i : Int) ∧ fB ps = fwB ps i ∧ vE ps = 13 := by
  obtain ⟨e1, e2⟩ := u4u hk hi (u9b (.inr h2))
  have e : vE ps = 13 := by
    unfold vE; rw [h, e1, e2, if_pos rfl, if_neg (by omega), if_pos hb]
  exact ⟨by unfold kE fwO; rw [h, e1, decide_eq_false (by omega)]; rfl, by unfold fA; rw [if_pos e, e2], by unfold fB; rw [if_pos e, e2], e⟩
theorem aO {d b : Int} {r r2 : List Int} {n n2 : Nat} (h : r.length = n * 2) (h2 : r2.length = n2 * 2) : ka0 (zL d b r r2) = zN d b n n2 * 2 := by
  unfold zL zN; split <;> assumption
theorem dX {d b : Int} {n n2 K : Nat} (h : n ≤ K) (h2 : n2 ≤ K) : zN d b n n2 ≤ K := by unfold zN; split <;> assumption
theorem oM {d b : Int} {m m2 : List (List Int)} (h : MsW m) (h2 : MsW m2) : MsW (zM d b m m2) := by unfold zM; split <;> assumption
theorem gQ {d b : Int} {m m2 : List (List Int)} {c c2 K : Nat} (h : m.length = c) (h2 : m2.length = c2) (h3 : c ≤ K) (h4 : c2 ≤ K) : ka0 (zM d b m m2) ≤ K := by unfold zM; split <;> omega
theorem k1p {k : Int} {r : List Int} {rn : Nat} {m : List (List Int)} {s : List Int} {sn : Nat} {c : Nat} (h : r.length = rn * 2) (h2 : s.length = sn * 2) (h3 : rn ≤ 1000000) (h4 : sn ≤ 1000000) (h5 : m.length = c) (h6 : c ≤ 1000000) (h7 : MsW m) : BsW [kD k r rn m s sn] := BsW.one ⟨h, h2, h3, h4, by show m.length ≤ _; omega, h7⟩
theorem RJ.y2 {d : Int} {xs ys : List Bx} {i j p : Nat} {o : List Bx} (h : RJ d xs ys i j o) (h1 : mxE d xs ys i j = 0) (hp : o.length = p) (h2 : ¬ 64 < (p : Int) + ((ka0 (o3 d xs ys i j) : Nat) : Int)) : RJ d xs ys i (j + 1) (o ++ o3 d xs ys i j) := h.y h1 (by omega)
theorem u46 {d : Int} {xs ys o : List Bx} {i j p : Nat} (h : RJ d xs ys i j o) (hi : i < ka0 xs) (hj : j < ka0 ys) (hp : o.length = p) (h1 : ¬ mxE d xs ys i j = 0 ∨ 64 < (p : Int) + ((ka0 (o3 d xs ys i j) : Nat) : Int)) : cF d xs ys = [] ∧ jP d xs ys = 3 := v3n h hi hj (by omega)
theorem k70 {d : Int} {xs ys : List Bx} (h : BsW xs) (i j : Nat) : BsW (o3 d xs ys i j) := u4m (BsW.one (h.box i))
def agL (d : Int) (xs ys : List Bx) : Nat → List Bx
  | 0 => []
  | i + 1 => agL d xs ys i ++ ((kd3 (ka0 xs)).map fun j => o3 d xs ys j i).flatten
def agJ (d : Int) (xs ys : List Bx) (i j : Nat) : List Bx := agL d xs ys i ++ ((kd3 j).map fun j => o3 d xs ys j i).flatten
def vF (d : Int) (xs ys : List Bx) : List Bx := agL d xs ys (ka0 ys)
theorem u5p {d : Int} {xs ys : List Bx} {i : Nat} {o : List Bx} (h : agL d xs ys i = o) : agJ d xs ys i 0 = o := by
  unfold agJ; rw [h]; exact kd6 _
theorem u5o {d : Int} {xs ys : List Bx} {i j : Nat} {o : List Bx} (h : agJ d xs ys i j = o) : agJ d xs ys i (j + 1) = o ++ o3 d xs ys j i := by
  subst h; unfold agJ
  rw [kj4, kg1, List.flatten_append, kd1]
  show _ ++ (_ ++ (o3 d xs ys j i ++ [])) = _
  rw [kd6]
theorem v2o {d : Int} {xs ys : List Bx} {i j : Nat} {o : List Bx} (h : agJ d xs ys i j = o) (hj : j = ka0 xs) : agL d xs ys (i + 1) = o := by
  subst hj; exact h
theorem u0h {d : Int} {xs ys : List Bx} {i : Nat} : ∀ j, ka0 (agJ d xs ys i j) ≤ ka0 (agL d xs ys i) + j * 64
  | 0 => by rw [u5p rfl]; omega
  | j + 1 => by
    have h1 := u0h (d := d) (xs := xs) (ys := ys) (i := i) j
    have h2 : ka0 (o3 d xs ys j i) ≤ 64 := s6 _ _
    rw [u5o rfl, ka6]; omega
theorem u8q {d : Int} {xs ys : List Bx} {n : Nat} (h : n ≤ 64) (hn : ka0 xs = n) (h2 : ka0 ys ≤ 1) : ka0 (vF d xs ys) ≤ 4096 := by
  unfold vF
  match h3 : ka0 ys, h2 with
  | 0, _ => exact ke2 _
  | 1, _ =>
    have := u0h (d := d) (xs := xs) (ys := ys) (i := 0) (ka0 xs)
    have h4 : ka0 (agL d xs ys 0) = 0 := rfl
    show ka0 (agJ d xs ys 0 (ka0 xs)) ≤ _
    omega
theorem v1h {ps : List Pt} (h : PsW ps) : BzW (kE ps) := by
  unfold kE; split
  · exact v1j h _
  · exact BzW.nil
theorem v3e {ps : List Pt} {j : Nat} (h : ¬ fwE ps j ≠ 0) (h2 : ¬ ((ka0 (y3 ps j) : Nat) : Int) = 0) : wdB ps j = false := u9c (Decidable.of_not_not h) (by omega)
theorem v3f {ps : List Pt} (h2 : ¬ ((ka0 (y3 ps 0) : Nat) : Int) = 0) : tC ps 1 = -1 := cD (p := wdB ps) (k := 0) rfl (u9c rfl (by omega))
theorem k83 {ps : List Pt} (h : dT ps = true) (h2 : ((ka0 (y3 ps 0) : Nat) : Int) = 0) : kE ps = [] ∧ fA ps = 0 ∧ fB ps = 15 ∧ vE ps = 13 := tB (i := 0) h rfl (k3f h).1 rfl (by omega)
theorem k82 {ps : List Pt} {i : Nat} (h : dT ps = true) (hk : tC ps (i + 1) = -1) (hi : i + 1 < ka0 ps) (hb : ¬ fwE ps (i + 1) ≠ 0) (h2 : ((ka0 (y3 ps (i + 1)) : Nat) : Int) = 0) : kE ps = [] ∧ fA ps = ((i : Nat) : Int) + 1 ∧ fB ps = blN (qP ps i) (q7 ps (i + 1)) (y3 ps i) ∧ vE ps = 13 := tB (i := i + 1) h hk hi (Decidable.of_not_not hb) (by omega)
theorem u3i (a : Int) : BxW (kD 4 [a, a] 1 [[3]] [64, 64] 1) := ⟨rfl, rfl, (by decide : 1 ≤ 1000000), (by decide : 1 ≤ 1000000), (by decide : 1 ≤ 1000000), fun l hl => by rw [List.mem_singleton.1 hl]; exact (by decide : 1 ≤ 1000000)⟩
theorem u4a {x y : Bx} {d e : Int} (hx : BxW x) (hy : BxW y) : PsW [e8 [x] d, e8 [y] e] := fun p hp => by
  rcases List.mem_cons.1 hp with rfl | hp
  · exact ⟨BsW.one hx, (by decide : 1 ≤ 1000)⟩
  · rw [List.mem_singleton.1 hp]; exact ⟨BsW.one hy, (by decide : 1 ≤ 1000)⟩
end Go.Proofs.YtbicifcgghmhaaaGreat
