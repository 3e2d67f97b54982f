/- Reduced lists, intersections. No statement is proved here. -/
import Derived.Test.YtbicifcgghmhaaaGreatZL10Q
import Derived.Test.YtbicifcgghmhaaaGreatZL10G
namespace Go.Proofs.YtbicifcgghmhaaaGreat
open Go.ChangeShapes Go.WideShapes Go.ChangeAt Go.RowKit
open Bool renaming and_false → kc7, eq_false_or_eq_true → ka9, false_and → kh4, not_true → kl2, or_true → kn7
open List renaming drop → ka3, drop_zero → kd3, getD → ka1, getD_eq_getElem?_getD → ka6, getElem?_eq_getElem → ka7, length → ka0, length_append → ka8, length_cons → kb0, length_drop → kb6, length_map → kc3, length_nil → kb2, length_replicate → kb5, length_reverse → kc0, length_set → kc1, length_take → kb4, take → ka5, take_of_length_le → kb7
open Nat renaming le_of_ble_eq_true → ka4, le_trans → ke0, mul_one → kc6, zero_le → kd7
set_option linter.unusedVariables false
set_option linter.unusedSimpArgs false
/-! chapter 10: boxes within boxes; reduced lists; intersections -/
set_option maxHeartbeats 4000000
set_option maxRecDepth 100000
def nZ (a b : Int) : Int := qE .andNot .i64 a b
def nhB (ms : List (List Int)) (m : List Int) : Bool := !(gM ms m)
theorem v0j {ms : List (List Int)} {m : List Int} (h : gM ms m = false) : nhB ms m = true := by unfold nhB; rw [h]; rfl
theorem v0k {ms : List (List Int)} {m : List Int} (h : gM ms m = true) : nhB ms m = false := by unfold nhB; rw [h]; rfl
def xY (a b : List (List Int)) : Nat → Int := jV fun j => nhB b (ka1 a j [])
theorem u94 {a b : List (List Int)} {k : Nat} (h : xY a b k = -1) (h2 : nhB b (ka1 a k []) = false) : xY a b (k + 1) = -1 := bQ h h2
theorem u95 {a b : List (List Int)} {k : Nat} (h : xY a b k = -1) (h2 : nhB b (ka1 a k []) = true) {n : Nat} (hn : k < n) : xY a b n = (k : Int) := dW h h2 n hn
def sgB (a b : List (List Int)) : Bool := decide (∃ m ∈ a, m ∉ b)
theorem v3h {a b : List (List Int)} {n : Nat} (hn : a.length = n) (h : 0 ≤ xY a b n) : sgB a b = true := by
 obtain ⟨k, hk, h1⟩ := oY h
 have hk : k < a.length := by omega
 refine decide_eq_true ⟨a[k], List.getElem_mem hk, fun e => ?_⟩
 have e2 : ka1 a k [] = a[k] := by rw [ka6, ka7 hk]; rfl
 have h1 : nhB b (ka1 a k []) = true := h1
 rw [e2, v0k (decide_eq_true e)] at h1; cases h1
theorem v3i {a b : List (List Int)} {n : Nat} (hn : a.length = n) (h : ¬ 0 ≤ xY a b n) : sgB a b = false := by
 refine decide_eq_false fun ⟨m, hm, e⟩ => ?_
 obtain ⟨k, hk, rfl⟩ := List.mem_iff_getElem.1 hm
 have h1 := jF h k (by omega)
 have e2 : ka1 a k [] = a[k] := by rw [ka6, ka7 hk]; rfl
 have h1 : nhB b (ka1 a k []) = false := h1
 rw [e2, v0j (decide_eq_false e)] at h1; cases h1
def nP (k : Int) (r : List Int) (rn : Nat) (m : List (List Int)) (s : List Int) (sn : Nat) (k2 : Int) (r2 : List Int) (rn2 : Nat) (m2 : List (List Int)) (s2 : List Int) (sn2 : Nat) : Bool := decide (nZ k k2 = 0) && (wT (kB r rn) (kB r2 rn2) && (!(sgB m m2) && wT (kB s sn) (kB s2 sn2)))
theorem v48 {k : Int} {r : List Int} {rn : Nat} {m : List (List Int)} {s : List Int} {sn : Nat} {k2 : Int} {r2 : List Int} {rn2 : Nat} {m2 : List (List Int)} {s2 : List Int} {sn2 : Nat} (h1 : nZ k k2 = 0) (h2 : wT (kB r rn) (kB r2 rn2) = true) (h3 : sgB m m2 = false) (h4 : wT (kB s sn) (kB s2 sn2) = true) : nP k r rn m s sn k2 r2 rn2 m2 s2 sn2 = true := by
 unfold nP; rw [decide_eq_true h1, h2, h3, h4]; rfl
theorem v4c {k : Int} {r : List Int} {rn : Nat} {m : List (List Int)} {s : List Int} {sn : Nat} {k2 : Int} {r2 : List Int} {rn2 : Nat} {m2 : List (List Int)} {s2 : List Int} {sn2 : Nat} (h1 : ¬ nZ k k2 = 0) : nP k r rn m s sn k2 r2 rn2 m2 s2 sn2 = false := by
 unfold nP; rw [decide_eq_false h1]; rfl
theorem v4a {k : Int} {r : List Int} {rn : Nat} {m : List (List Int)} {s : List Int} {sn : Nat} {k2 : Int} {r2 : List Int} {rn2 : Nat} {m2 : List (List Int)} {s2 : List Int} {sn2 : Nat} (h2 : wT (kB r rn) (kB r2 rn2) = false) : nP k r rn m s sn k2 r2 rn2 m2 s2 sn2 = false := by
 unfold nP; rw [h2, kh4, kc7]
theorem v4b {k : Int} {r : List Int} {rn : Nat} {m : List (List Int)} {s : List Int} {sn : Nat} {k2 : Int} {r2 : List Int} {rn2 : Nat} {m2 : List (List Int)} {s2 : List Int} {sn2 : Nat} (h3 : sgB m m2 = true) : nP k r rn m s sn k2 r2 rn2 m2 s2 sn2 = false := by
 unfold nP; rw [h3, kl2, kh4, kc7, kc7]
theorem v49 {k : Int} {r : List Int} {rn : Nat} {m : List (List Int)} {s : List Int} {sn : Nat} {k2 : Int} {r2 : List Int} {rn2 : Nat} {m2 : List (List Int)} {s2 : List Int} {sn2 : Nat} (h4 : wT (kB s sn) (kB s2 sn2) = false) : nP k r rn m s sn k2 r2 rn2 m2 s2 sn2 = false := by
 unfold nP; rw [h4, kc7, kc7, kc7]
def niE (xs : List Bx) (i : Nat) (ys : List Bx) (j : Nat) : Bool := nP (kR xs i) (k8 xs i) (kU xs i) (kS xs i) (kZ xs i) (kT xs i) (kR ys j) (k8 ys j) (kU ys j) (kS ys j) (kZ ys j) (kT ys j)
def nE (xs : List Bx) (i j : Nat) : Bool := decide (j ≠ i) && (niE xs i xs j && (decide (j < i) || !(niE xs j xs i)))
def goB (xs : List Bx) (i : Nat) : Bool := decide (∃ j, j < xs.length ∧ nE xs i j = true)
theorem v18 {xs : List Bx} {i j : Nat} (hj : j < xs.length) (h : nE xs i j = true) : goB xs i = true := decide_eq_true ⟨j, hj, h⟩
theorem v19 {xs : List Bx} {i : Nat} (h : ∀ j, j < xs.length → nE xs i j = false) : goB xs i = false := decide_eq_false fun ⟨j, hj, e⟩ => by
 have := h j hj; rw [this] at e; cases e
theorem v4x {xs : List Bx} {i j : Nat} (h0 : ¬ j = i) (h1 : niE xs i xs j = true) (h2 : j < i) : nE xs i j = true := by
 unfold nE; rw [decide_eq_true h0, h1, decide_eq_true h2]; rfl
theorem v4w {xs : List Bx} {i j : Nat} (h0 : ¬ j = i) (h1 : niE xs i xs j = true) (h2 : niE xs j xs i = false) : nE xs i j = true := by
 unfold nE; rw [decide_eq_true h0, h1, h2, Bool.not_false, kn7]; rfl
theorem u70 {xs : List Bx} {i j : Nat} (h0 : j = i) : nE xs i j = false := by
 unfold nE; rw [decide_eq_false (fun e => e h0)]; rfl
theorem v4y {xs : List Bx} {i j : Nat} (h1 : niE xs i xs j = false) : nE xs i j = false := by
 unfold nE; rw [h1, kh4, kc7]
theorem v4z {xs : List Bx} {i j : Nat} (h1 : niE xs j xs i = true) (h2 : ¬ j < i) : nE xs i j = false := by
 unfold nE; rw [h1, decide_eq_false h2, kl2, Bool.or_false, kc7, kc7]
def bxP (xs : List Bx) (i : Nat) : Bx := kE (kR xs i) (k8 xs i) (kU xs i) (kS xs i) (kZ xs i) (kT xs i)
def oB (xs : List Bx) : Nat → List Bx
 | 0 => []
 | i + 1 => if goB xs i = true then oB xs i else oB xs i ++ [bxP xs i]
theorem v3n {xs o : List Bx} {i : Nat} (h : oB xs i = o) (h1 : goB xs i = true) : oB xs (i + 1) = o := by subst h; exact if_pos h1
theorem v3o {xs o : List Bx} {i : Nat} (h : oB xs i = o) (h1 : goB xs i = false) : oB xs (i + 1) = o ++ [kE (kR xs i) (k8 xs i) (kU xs i) (kS xs i) (kZ xs i) (kT xs i)] := by subst h; exact if_neg (by rw [h1]; decide)
def aZ (xs : List Bx) : List Bx := if bY xs = true then oB xs xs.length else []
def iM (xs : List Bx) : Int := if bY xs = true then 0 else 1
theorem k58 {xs : List Bx} (h : bY xs = true) : aZ xs = oB xs xs.length ∧ iM xs = 0 := ⟨if_pos h, if_pos h⟩
theorem u9n {xs : List Bx} (h : bY xs = false) : aZ xs = [] ∧ iM xs = 1 := ⟨if_neg (by rw [h]; decide), if_neg (by rw [h]; decide)⟩
theorem k57 {xs : List Bx} (h : BsW xs) : ∀ i, BsW (oB xs i)
 | 0 => BsW.nil
 | i + 1 => by
  rw [oB]; split
  ·exact k57 h i
  ·exact (k57 h i).app (BsW.one (h.box i))
theorem zR (xs : List Bx) : ∀ i, ka0 (oB xs i) ≤ i
 | 0 => Nat.le_refl _
 | i + 1 => by
  have := zR xs i
  rw [oB]; split
  ·omega
  ·rw [ka8, List.length_singleton]; omega
theorem k59 {xs : List Bx} (h : BsW xs) : BsW (aZ xs) := by unfold aZ; split; exact k57 h _; exact BsW.nil
theorem mH (xs : List Bx) : ka0 (aZ xs) ≤ ka0 xs := by unfold aZ; split; exact zR xs _; exact kd7 _
theorem gT (xs : List Bx) : 0 ≤ iM xs ∧ iM xs ≤ 1 := by unfold iM; split <;> decide
def dM (l : List Int) (v : Int) : Nat → List Int
 | 0 => []
 | k + 1 => if v < ka1 l (k * 2 + 1) 0 then dM l v k ++ [max (ka1 l (k * 2) 0) (v + 1), ka1 l (k * 2 + 1) 0] else dM l v k
def jY (l : List Int) (v : Int) (k : Nat) : Nat := (dM l v k).length / 2
theorem v5q {l o : List Int} {v x y : Int} {k : Nat} (h : dM l v k = o) (h1 : v < ka1 l (k * 2 + 1) 0) (hx : x = max (ka1 l (k * 2) 0) (v + 1)) (hy : y = ka1 l (k * 2 + 1) 0) : dM l v (k + 1) = o ++ [x, y] := by subst h; rw [hx, hy]; exact if_pos h1
theorem v5r {l o : List Int} {v : Int} {k : Nat} (h : dM l v k = o) (h1 : ¬ v < ka1 l (k * 2 + 1) 0) : dM l v (k + 1) = o := by subst h; exact if_neg h1
theorem sU (l : List Int) (v : Int) (k : Nat) : ka0 (dM l v k) = jY l v k * 2 ∧ jY l v k ≤ k := by
 have h : ∃ j, j ≤ k ∧ ka0 (dM l v k) = j * 2 := by
  induction k with
  | zero => exact ⟨0, Nat.le_refl _, rfl⟩
  | succ k ih =>
   obtain ⟨j, hj, e⟩ := ih
   rw [dM]; split
   ·exact ⟨j + 1, by omega, by rw [ka8, e]; simp only [kb0, kb2]; omega⟩
   ·exact ⟨j, by omega, e⟩
 obtain ⟨j, hj, e⟩ := h
 unfold jY; omega
def lH (r : List Int) (rn : Nat) (r2 : List Int) (rn2 : Nat) : Bool := decide (qL (kB r rn) (kB r2 rn2) < 64) || decide (qL (kB (dM r (ka1 (uB (kB r rn) (kB r2 rn2)) 127 0) rn) (jY r (ka1 (uB (kB r rn) (kB r2 rn2)) 127 0) rn)) (kB r2 rn2) = 0)
theorem u6m {r : List Int} {rn : Nat} {r2 : List Int} {rn2 : Nat} (h : qL (kB r rn) (kB r2 rn2) < 64) : lH r rn r2 rn2 = true := by unfold lH; rw [decide_eq_true h]; rfl
theorem v4h {r : List Int} {rn : Nat} {r2 : List Int} {rn2 : Nat} (h : qL (kB (dM r (ka1 (uB (kB r rn) (kB r2 rn2)) 127 0) rn) (jY r (ka1 (uB (kB r rn) (kB r2 rn2)) 127 0) rn)) (kB r2 rn2) = 0) : lH r rn r2 rn2 = true := by unfold lH; rw [decide_eq_true h, kn7]
theorem v4i {r : List Int} {rn : Nat} {r2 : List Int} {rn2 : Nat} (h1 : ¬ qL (kB r rn) (kB r2 rn2) < 64) (h : ¬ qL (kB (dM r (ka1 (uB (kB r rn) (kB r2 rn2)) 127 0) rn) (jY r (ka1 (uB (kB r rn) (kB r2 rn2)) 127 0) rn)) (kB r2 rn2) = 0) : lH r rn r2 rn2 = false := by unfold lH; rw [decide_eq_false h, decide_eq_false h1]; rfl
theorem u3t {a b : List Int} {n m : Nat} (ha : a.length = n * 2) (hb : b.length = m * 2) : bN (qN (uB (kB a n) (kB b m))) := by
 unfold uB; rw [gC]
 have h := k1u (aY ha) (aY hb)
 have e := List.take_append_drop 64 (aL (qN (kB a n)) (qN (kB b m)))
 generalize ka5 64 (aL (qN (kB a n)) (qN (kB b m))) = t at *
 generalize ka3 64 (aL (qN (kB a n)) (qN (kB b m))) = d at *
 rw [← e] at h
 clear e
 induction t with
 | nil => trivial
 | cons p t ih => exact ⟨h.1, fun q hq => h.2.1 q (List.mem_append_left _ hq), ih h.2.2⟩
theorem v13 {a b : List Int} {n m : Nat} (ha : a.length = n * 2) (hb : b.length = m * 2) (h : 64 ≤ qL (kB a n) (kB b m)) : 0 ≤ ka1 (uB (kB a n) (kB b m)) 127 0 ∧ ka1 (uB (kB a n) (kB b m)) 127 0 ≤ 2147483647 := by
 have h1 := cS (u3t ha hb) _ ((u6 (uS (kB a n) (kB b m))).2 ⟨63, by omega, rfl⟩)
 unfold dA at h1
 have h1 : 0 ≤ ka1 (uB (kB a n) (kB b m)) 126 0 ∧ ka1 (uB (kB a n) (kB b m)) 126 0 ≤ ka1 (uB (kB a n) (kB b m)) 127 0 ∧ ka1 (uB (kB a n) (kB b m)) 127 0 ≤ 2147483647 := h1
 omega
def xsB (r : List Int) (rn : Nat) (r2 : List Int) (rn2 : Nat) (s : List Int) (sn : Nat) (s2 : List Int) (sn2 : Nat) : Bool := lH r rn r2 rn2 && lH s sn s2 sn2
theorem u5o {r : List Int} {rn : Nat} {r2 : List Int} {rn2 : Nat} {s : List Int} {sn : Nat} {s2 : List Int} {sn2 : Nat} (h1 : lH r rn r2 rn2 = true) (h2 : lH s sn s2 sn2 = true) : xsB r rn r2 rn2 s sn s2 sn2 = true := by unfold xsB; rw [h1, h2]; rfl
theorem u8o {r : List Int} {rn : Nat} {r2 : List Int} {rn2 : Nat} {s : List Int} {sn : Nat} {s2 : List Int} {sn2 : Nat} (h1 : lH r rn r2 rn2 = false) : xsB r rn r2 rn2 s sn s2 sn2 = false := by unfold xsB; rw [h1]; rfl
theorem v31 {r : List Int} {rn : Nat} {r2 : List Int} {rn2 : Nat} {s : List Int} {sn : Nat} {s2 : List Int} {sn2 : Nat} (h2 : lH s sn s2 sn2 = false) : xsB r rn r2 rn2 s sn s2 sn2 = false := by unfold xsB; rw [h2, kc7]
/-! the boxes made of each box of one list with each box of another one -/
def crB (xs ys : List Bx) (i j : Nat) : Bx := kE (qG (kR xs i) (kR ys j)) (uB (kB (k8 xs i) (kU xs i)) (kB (k8 ys j) (kU ys j))) (qL (kB (k8 xs i) (kU xs i)) (kB (k8 ys j) (kU ys j))) (uT (kS xs i) (kS ys j) (ka0 (kS xs i))) (uB (kB (kZ xs i) (kT xs i)) (kB (kZ ys j) (kT ys j))) (qL (kB (kZ xs i) (kT xs i)) (kB (kZ ys j) (kT ys j)))
def x6 (xs ys : List Bx) (i j : Nat) : Bool := eY (qG (kR xs i) (kR ys j)) (uB (kB (k8 xs i) (kU xs i)) (kB (k8 ys j) (kU ys j))) (qL (kB (k8 xs i) (kU xs i)) (kB (k8 ys j) (kU ys j))) (uT (kS xs i) (kS ys j) (ka0 (kS xs i))) (uB (kB (kZ xs i) (kT xs i)) (kB (kZ ys j) (kT ys j))) (qL (kB (kZ xs i) (kT xs i)) (kB (kZ ys j) (kT ys j)))
def crS (xs ys : List Bx) (i j : Nat) : Bool := xsB (k8 xs i) (kU xs i) (k8 ys j) (kU ys j) (kZ xs i) (kT xs i) (kZ ys j) (kT ys j)
theorem u4k {xs ys : List Bx} (h : BsW xs) (i j : Nat) : zA (crB xs ys i j) := by
 refine ⟨uS _ _, uS _ _, ke0 (v7 _ _) (by decide), ke0 (v7 _ _) (by decide), ?_, o4 (h.ms i) _ _⟩
 have h1 := cC (kS xs i) (kS ys j) (ka0 (kS xs i))
 have h2 := h.at i
 show ka0 (uT _ _ _) ≤ _
 omega
def cjL (xs ys : List Bx) (i : Nat) (o : List Bx) : Nat → List Bx
 | 0 => o
 | j + 1 => if x6 xs ys i j = true then cjL xs ys i o j ++ [crB xs ys i j] else cjL xs ys i o j
def ciL (xs ys : List Bx) : Nat → List Bx
 | 0 => []
 | i + 1 => cjL xs ys i (ciL xs ys i) (ka0 ys)
def ljB (xs ys : List Bx) (i : Nat) (b : Bool) : Nat → Bool
 | 0 => b
 | j + 1 => ljB xs ys i b j && (!(x6 xs ys i j) || (crS xs ys i j && decide (ka0 (cjL xs ys i (ciL xs ys i) j) ≠ 64)))
def liB (xs ys : List Bx) : Nat → Bool
 | 0 => true
 | i + 1 => ljB xs ys i (liB xs ys i) (ka0 ys)
theorem k1q (xs ys : List Bx) (i : Nat) (b : Bool) (j : Nat) : ∀ k, ljB xs ys i b j = false → ljB xs ys i b (j + k) = false
 | 0, h => h
 | k + 1, h => by
  show (ljB xs ys i b (j + k) && _) = false
  rw [k1q xs ys i b j k h]; rfl
theorem v0x (xs ys : List Bx) (i : Nat) : ∀ k, ljB xs ys i false k = false
 | 0 => rfl
 | k + 1 => by
  show (ljB xs ys i false k && _) = false
  rw [v0x xs ys i k]; rfl
theorem k1r (xs ys : List Bx) (i : Nat) : ∀ k, liB xs ys i = false → liB xs ys (i + k) = false
 | 0, h => h
 | k + 1, h => by
  show ljB xs ys (i + k) (liB xs ys (i + k)) _ = false
  rw [k1r xs ys i k h]; exact v0x ..
theorem k6n {xs ys : List Bx} {i j : Nat} (hi : i < ka0 xs) (hj : j < ka0 ys) (h1 : x6 xs ys i j = true) (h2 : crS xs ys i j = false ∨ ka0 (cjL xs ys i (ciL xs ys i) j) = 64) : liB xs ys (ka0 xs) = false := by
 have a1 : ljB xs ys i (liB xs ys i) (j + 1) = false := by
  show (_ && (!(x6 xs ys i j) || _)) = false
  rw [h1]
  rcases h2 with h2 | h2
  ·rw [h2]; simp
  ·rw [h2]; simp
 have a2 := k1q xs ys i (liB xs ys i) (j + 1) (ka0 ys - (j + 1)) a1
 rw [show j + 1 + (ka0 ys - (j + 1)) = ka0 ys by omega] at a2
 have a3 := k1r xs ys (i + 1) (ka0 xs - (i + 1)) a2
 rw [show i + 1 + (ka0 xs - (i + 1)) = ka0 xs by omega] at a3
 exact a3
def CI (xs ys : List Bx) (i : Nat) (o : List Bx) : Prop := ciL xs ys i = o ∧ liB xs ys i = true
def CJ2 (xs ys : List Bx) (i j : Nat) (o : List Bx) : Prop := cjL xs ys i (ciL xs ys i) j = o ∧ ljB xs ys i (liB xs ys i) j = true
theorem CI.zero (xs ys : List Bx) : CI xs ys 0 [] := ⟨rfl, rfl⟩
theorem CI.in {xs ys : List Bx} {i : Nat} {o : List Bx} (h : CI xs ys i o) : CJ2 xs ys i 0 o := h
theorem CJ2.out {xs ys : List Bx} {i j : Nat} {o : List Bx} (h : CJ2 xs ys i j o) (hj : j = ka0 ys) : CI xs ys (i + 1) o := by subst hj; exact h
theorem CJ2.n {xs ys : List Bx} {i j : Nat} {o : List Bx} (h : CJ2 xs ys i j o) (h1 : x6 xs ys i j = false) : CJ2 xs ys i (j + 1) o := by
 refine ⟨?_, ?_⟩
 ·show (if x6 xs ys i j = true then _ else _) = o
  rw [if_neg (by rw [h1]; decide)]; exact h.1
 ·show (ljB xs ys i (liB xs ys i) j && _) = true
  rw [h.2, h1]; rfl
theorem CJ2.y {xs ys : List Bx} {i j : Nat} {o : List Bx} (h : CJ2 xs ys i j o) (h1 : x6 xs ys i j = true) (h2 : crS xs ys i j = true) (h3 : ¬ ka0 o = 64) : CJ2 xs ys i (j + 1) (o ++ [crB xs ys i j]) := by
 refine ⟨?_, ?_⟩
 ·show (if x6 xs ys i j = true then _ else _) = _
  rw [if_pos h1, h.1]
 ·show (ljB xs ys i (liB xs ys i) j && (!(x6 xs ys i j) || (crS xs ys i j && decide _))) = true
  rw [h.2, h1, h2, h.1, decide_eq_true h3]; rfl
def ixV (a b : List Bx) : Bool := bY a && bY b
def yE (a b : List Bx) : List Bx := if ixV a b = true then (if liB a b (ka0 a) = true then aZ (ciL a b (ka0 a)) else []) else []
def eE (a b : List Bx) : Int := if ixV a b = true then (if liB a b (ka0 a) = true then iM (ciL a b (ka0 a)) else 3) else 1
theorem v4o {a b : List Bx} (h : bY a = false) : yE a b = [] ∧ eE a b = 1 := by unfold yE eE ixV; rw [h]; exact ⟨rfl, rfl⟩
theorem v4n {a b : List Bx} (h : bY b = false) : yE a b = [] ∧ eE a b = 1 := by unfold yE eE ixV; rw [h, kc7]; exact ⟨rfl, rfl⟩
theorem v12 {a b : List Bx} (h1 : bY a = true) (h2 : bY b = true) (h : liB a b (ka0 a) = false) : yE a b = [] ∧ eE a b = 3 := by unfold yE eE ixV; rw [h1, h2, h]; exact ⟨rfl, rfl⟩
theorem k6u {a b o : List Bx} {i : Nat} (h1 : bY a = true) (h2 : bY b = true) (h : CI a b i o) (hi : i = ka0 a) : yE a b = aZ o ∧ eE a b = iM o := by
 subst hi
 unfold yE eE ixV; rw [h1, h2, h.1, h.2]; exact ⟨rfl, rfl⟩
theorem k97 {xs ys : List Bx} (h : BsW xs) (i : Nat) {o : List Bx} (ho : BsW o) : ∀ j, BsW (cjL xs ys i o j)
 | 0 => ho
 | j + 1 => by
  rw [cjL]; split
  ·exact (k97 h i ho j).app (BsW.one (u4k h i j))
  ·exact k97 h i ho j
theorem u4l {xs ys : List Bx} (h : BsW xs) : ∀ i, BsW (ciL xs ys i)
 | 0 => BsW.nil
 | i + 1 => k97 h i (u4l h i) _
theorem u3s {a b : List Bx} (h : BsW a) : BsW (yE a b) := by
 unfold yE; split
 ·split
  ·exact k59 (u4l h _)
  ·exact BsW.nil
 ·exact BsW.nil
theorem rX (a b : List Bx) : 0 ≤ eE a b ∧ eE a b ≤ 3 := by
 unfold eE; split
 ·split
  ·have := gT (ciL a b (ka0 a)); omega
  ·decide
 ·decide
theorem zS (xs : List Bx) : ka0 (aZ xs) ≤ 64 := by
 unfold aZ; split
 ·rename_i h
  have h1 := (of_decide_eq_true h).1
  exact ke0 (zR xs _) h1
 ·exact kd7 _
theorem rW (a b : List Bx) : ka0 (yE a b) ≤ 64 := by
 unfold yE; split
 ·split
  ·exact zS _
  ·exact kd7 _
 ·exact kd7 _
def siX (k r : Int) (m : List Int) (z : Int) : List Bx := [kE (IntKind.i64.wrap (1 * ((2 ^ k.toNat : Nat) : Int))) [r, r] 1 [m] [z, z] 1]
def qM (k r : Int) (m : List Int) (z : Int) : List Bx := if 1 ≤ k ∧ k ≤ 7 then kK (siX k r m z) else []
theorem u3b (k r : Int) (m : List Int) (z : Int) (h : ka0 m ≤ 1000000) : BsW (siX k r m z) := BsW.one ⟨rfl, rfl, (by decide : 1 ≤ 1000000), (by decide : 1 ≤ 1000000), (by decide : 1 ≤ 1000000), fun l hl => by rw [List.mem_singleton.1 hl]; exact h⟩
theorem u9b (k r : Int) (m : List Int) (z : Int) (h : ka0 m ≤ 1000000) : BsW (qM k r m z) := by
 unfold qM; split; exact dL (u3b k r m z h); exact BsW.nil
theorem mA (k r : Int) (m : List Int) (z : Int) : ka0 (qM k r m z) ≤ 1 := by
 unfold qM; split; exact jK _; exact kd7 _
theorem u0x {m : List (List Int)} {z : Nat} (h : z < m.length) : kI (ka5 (z + 1) m) = kI (ka5 z m ++ [ka1 m z []]) := by
 rw [List.take_succ_eq_append_getElem h, ka6, ka7 h]; rfl
theorem u5a (a : List Int) (n : Nat) (k : Int) (r : List Int) (rn : Nat) (m : List (List Int)) (c : Nat) (s : List Int) (sn : Nat) (hn : ka0 a = n) (h1 : n ≤ 1000000) (hc : ka0 m = c) (h3 : c ≤ 1000000) (hW : MsW m) : Fun 130 [.c (.d (D.sl (dI .i64 a) n)), .c (.ptr 0 0)] (kF [(0, some (63, .ds [iD k, D.sl (dI .i64 r) rn, D.sl (kI m) c, D.sl (dI .i64 s) sn]))]) 1 (uJ (D.lit (.bool (nhB m a)))) (kF [(0, some (63, .ds [iD k, D.sl (dI .i64 r) rn, D.sl (kI m) c, D.sl (dI .i64 s) sn]))]) 1 := by
 refine Fun.mk (n := 9) Tryz.func130 rfl rfl (ka4 rfl) ?_
 intro cx hcx
 refine kH [.no] True [(0, sV .i64 a n), (1, rV 0 0)] [(0, some (63, .ds [iD k, dl r rn, D.sl (kI m) c, dl s sn]))] 1 trivial ?_
 rcases ka9 (gM m a) with hx1 | hx1
 ·refine kQ [.no, .no, .no, .call [] (bV true) [] 0 [] none, .no, .no] (Fun 126 [.c (.d (D.sl (kI m) c)), .c (.d (dl a n))] (kF []) 0 (bV true) (kF []) 0) [(3, bV false)] (by have h0 := (iK m c a n zo zo zo zo (qC : MsW m)); rw [hx1] at h0; exact h0) ?_
  refine AW.ret ?_
  exact kA (.inr rfl) [] (P := ((nhB m a) = false) ∧ (kJ [iD k, dl r rn, D.sl (kI m) c, dl s sn])) zk ⟨(by exact v0k (by assumption)), rfl⟩
 ·refine kQ [.no, .no, .no, .call [] (bV false) [] 0 [] none, .no, .no] (Fun 126 [.c (.d (D.sl (kI m) c)), .c (.d (dl a n))] (kF []) 0 (bV false) (kF []) 0) [(3, bV true)] (by have h0 := (iK m c a n zo zo zo zo (qC : MsW m)); rw [hx1] at h0; exact h0) ?_
  refine AW.ret ?_
  exact kA (.inr rfl) [] (P := ((nhB m a) = true) ∧ (kJ [iD k, dl r rn, D.sl (kI m) c, dl s sn])) zk ⟨(by exact v0j (by assumption)), rfl⟩
abbrev bH (k : Int) (r : List Int) (rn : Nat) (m : List (List Int)) (c : Nat) (s : List Int) (sn : Nat) : BC := .ds [iD k, D.sl (dI .i64 r) rn, D.sl (kI m) c, D.sl (dI .i64 s) sn]
theorem u59 (a : List (List Int)) (n : Nat) (k : Int) (r : List Int) (rn : Nat) (m : List (List Int)) (c : Nat) (s : List Int) (sn : Nat) (hn : ka0 a = n) (h1 : n ≤ 1000000) (hA : MsW a) (hc : ka0 m = c) (h3 : c ≤ 1000000) (hW : MsW m) : Fun 159 [.c (.d (D.sl (kI a) n)), .c (.fn 130 [(0, 0)])] (kF [(0, some (63, .ds [iD k, D.sl (dI .i64 r) rn, D.sl (kI m) c, D.sl (dI .i64 s) sn]))]) 1 (iV (xY a m n)) (kF [(0, some (63, .ds [iD k, D.sl (dI .i64 r) rn, D.sl (kI m) c, D.sl (dI .i64 s) sn]))]) 1 := by
 refine Fun.mk (n := 19) Tryz.func159 rfl rfl (ka4 rfl) ?_
 intro cx hcx
 refine kH [.no] True [(0, qB (kI a) n), (1, .e (.c (.fn 130 [(0, 0)])))] [(0, some (63, (bH k r rn m c s sn)))] 1 trivial ?_
 refine AW.seq ?_
 refine kQ [.no, .no, .no] True [(0, qB (kI a) n), (1, .e (.c (.fn 130 [(0, 0)]))), (7, uV n), (8, iV 0)] trivial ?_
 refine AW.block ?_
 refine kX 1 hcx (fun (x : {x : Nat // match x with | z => (z ≤ n) ∧ (xY a m z = -1)}) => match x with | ⟨z, _⟩ => (⟨[(0, qB (kI a) n), (1, .e (.c (.fn 130 [(0, 0)]))), (7, uV n), (8, uV z)], [(0, some (63, (bH k r rn m c s sn)))], 1⟩ : ES)) (fun x => match x with | ⟨z, _⟩ => n - z) ⟨(0 : Nat), ⟨zo, rfl⟩⟩ [] (P := (kJ (kI a)) ∧ (kG n) ∧ (kM (n : Int)) ∧ (kM 0) ∧ (kJ [iD k, dl r rn, D.sl (kI m) c, dl s sn])) zk ⟨rfl, rfl, rfl, rfl, rfl⟩ ?_
 rintro ⟨z, hinv0⟩
 obtain ⟨hk, hi⟩ : (z ≤ n) ∧ (xY a m z = -1) := hinv0
 refine qU (l := [(0, qB (kI a) n), (1, .e (.c (.fn 130 [(0, 0)]))), (7, uV n), (8, uV z)]) (g := [(0, some (63, (bH k r rn m c s sn)))]) (nx := 1) rfl rfl rfl ?_
 by_cases hx1 : (((z : Nat) : Int) < ((n : Nat) : Int))
 ·refine kH [.b true] (((z : Int) < (n : Int))) [(0, qB (kI a) n), (1, .e (.c (.fn 130 [(0, 0)]))), (7, uV n), (8, uV z), (9, bV true)] [(0, some (63, (bH k r rn m c s sn)))] 1 zo ?_
  refine AW.seq ?_
  refine vI ?_
  refine AW.seq ?_
  refine AW.block ?_
  refine kQ [.no, .no] True [(0, qB (kI a) n), (1, .e (.c (.fn 130 [(0, 0)]))), (5, uV z), (7, uV n), (8, uV z)] trivial ?_
  rcases ka9 (nhB m (ka1 a z ([] : List Int))) with hx3 | hx3
  ·have hx4 : ((ka0 (ka1 a z ([] : List Int))) ≤ 1000000) := MsW.at (qC : MsW a) _
   refine kQ [.no, .no, .no, .n z, .d (dl (ka1 a z ([] : List Int)) (ka0 (ka1 a z ([] : List Int)))), .call [0] (bV true) [(0, some (63, (bH k r rn m c s sn)))] 1 [] none] ((kM (z : Int)) ∧ (z < n) ∧ ((ka3 z (kI a))[0]? = some (dl (ka1 a z ([] : List Int)) (ka0 (ka1 a z ([] : List Int))))) ∧ (Fun 130 [.c (.d (dl (ka1 a z ([] : List Int)) (ka0 (ka1 a z ([] : List Int))))), .c (.ptr 0 0)] (kF [(0, some (63, (bH k r rn m c s sn)))]) 1 (bV true) (kF [(0, some (63, (bH k r rn m c s sn)))]) 1)) [(0, qB (kI a) n), (1, .e (.c (.fn 130 [(0, 0)]))), (5, uV z), (7, uV n), (8, uV z), (16, bV true)] ⟨rfl, zo, (a7 _ _ zo), (by have h0 := (u5a (ka1 a z ([] : List Int)) (ka0 (ka1 a z ([] : List Int))) k r rn m c s sn rfl zo zo zo (qC : MsW m)); rw [hx3] at h0; exact h0)⟩ ?_
   refine zt ?_
   refine kQ [.no, .no] True [(4, uV z)] trivial ?_
   refine AW.ret ?_
   exact kA (.inr rfl) [] (P := (((xY a m n) : Int) = (z : Int)) ∧ (kJ [iD k, dl r rn, D.sl (kI m) c, dl s sn])) zk ⟨(by exact u95 hi (by assumption) zo), rfl⟩
  ·have hx5 : ((ka0 (ka1 a z ([] : List Int))) ≤ 1000000) := MsW.at (qC : MsW a) _
   refine kQ [.no, .no, .no, .n z, .d (dl (ka1 a z ([] : List Int)) (ka0 (ka1 a z ([] : List Int)))), .call [0] (bV false) [(0, some (63, (bH k r rn m c s sn)))] 1 [] none] ((kM (z : Int)) ∧ (z < n) ∧ ((ka3 z (kI a))[0]? = some (dl (ka1 a z ([] : List Int)) (ka0 (ka1 a z ([] : List Int))))) ∧ (Fun 130 [.c (.d (dl (ka1 a z ([] : List Int)) (ka0 (ka1 a z ([] : List Int))))), .c (.ptr 0 0)] (kF [(0, some (63, (bH k r rn m c s sn)))]) 1 (bV false) (kF [(0, some (63, (bH k r rn m c s sn)))]) 1)) [(0, qB (kI a) n), (1, .e (.c (.fn 130 [(0, 0)]))), (5, uV z), (7, uV n), (8, uV z), (16, bV false)] ⟨rfl, zo, (a7 _ _ zo), (by have h0 := (u5a (ka1 a z ([] : List Int)) (ka0 (ka1 a z ([] : List Int))) k r rn m c s sn rfl zo zo zo (qC : MsW m)); rw [hx3] at h0; exact h0)⟩ ?_
   refine uP ?_
   refine u2 [.w, .no] (uZ ((z : Int) + 1)) [(0, qB (kI a) n), (1, .e (.c (.fn 130 [(0, 0)]))), (7, uV n), (8, iV (↑z + 1))] ⟨by omega, by omega⟩ ?_
   exact kV ⟨((z + 1) : Nat), ⟨zo, (u94 hi (by assumption))⟩⟩ [] (P := (kJ (kI a)) ∧ (kG n) ∧ (kM (n : Int)) ∧ (bU z) ∧ (kJ [iD k, dl r rn, D.sl (kI m) c, dl s sn])) zk ⟨rfl, rfl, rfl, (by rfl), rfl⟩ (show n - (z + 1) < n - z from zo)
 ·refine kH [.b false] (¬ ((z : Int) < (n : Int))) [(0, qB (kI a) n), (1, .e (.c (.fn 130 [(0, 0)]))), (7, uV n), (8, uV z), (9, bV false)] [(0, some (63, (bH k r rn m c s sn)))] 1 zo ?_
  refine AW.seq ?_
  refine zf ?_
  refine AW.exit ?_
  refine kH [.no] True [(4, iV (-1))] [(0, some (63, (bH k r rn m c s sn)))] 1 trivial ?_
  refine AW.ret ?_
  exact kA (.inr rfl) [] (P := (((xY a m n) : Int) = (-1)) ∧ (kJ [iD k, dl r rn, D.sl (kI m) c, dl s sn])) zk ⟨(by (rw [show n = z by omega]; exact hi)), rfl⟩
theorem u05 (a : List (List Int)) (n : Nat) (k : Int) (r : List Int) (rn : Nat) (m : List (List Int)) (c : Nat) (s : List Int) (sn : Nat) (hn : ka0 a = n) (h1 : n ≤ 1000000) (hA : MsW a) (hc : ka0 m = c) (h3 : c ≤ 1000000) (hW : MsW m) : Fun 132 [.c (.d (D.sl (kI a) n)), .c (.fn 130 [(0, 0)])] (kF [(0, some (63, .ds [iD k, D.sl (dI .i64 r) rn, D.sl (kI m) c, D.sl (dI .i64 s) sn]))]) 1 (uJ (D.lit (.bool (sgB a m)))) (kF [(0, some (63, .ds [iD k, D.sl (dI .i64 r) rn, D.sl (kI m) c, D.sl (dI .i64 s) sn]))]) 1 := by
 refine Fun.mk (n := 9) Tryz.func132 rfl rfl (ka4 rfl) ?_
 intro cx hcx
 refine kH [.no] True [(0, qB (kI a) n), (1, .e (.c (.fn 130 [(0, 0)])))] [(0, some (63, .ds [iD k, dl r rn, D.sl (kI m) c, dl s sn]))] 1 trivial ?_
 by_cases hx1 : ((0 : Int) ≤ (xY a m n))
 ·refine kQ [.no, .no, .call [0] (iV (xY a m n)) [(0, some (63, .ds [iD k, dl r rn, D.sl (kI m) c, dl s sn]))] 1 [] none, .b true, .no] ((_) ∧ (((0 : Int) ≤ (xY a m n)))) [(4, bV true)] ⟨(u59 a n k r rn m c s sn zo zo (qC : MsW a) zo zo (qC : MsW m)), zo⟩ ?_
  refine AW.ret ?_
  exact kA (.inr rfl) [] (P := ((sgB a m) = true) ∧ (kJ [iD k, dl r rn, D.sl (kI m) c, dl s sn])) zk ⟨(by exact v3h hn zo), rfl⟩
 ·refine kQ [.no, .no, .call [0] (iV (xY a m n)) [(0, some (63, .ds [iD k, dl r rn, D.sl (kI m) c, dl s sn]))] 1 [] none, .b false, .no] ((_) ∧ (¬ ((0 : Int) ≤ (xY a m n)))) [(4, bV false)] ⟨(u59 a n k r rn m c s sn zo zo (qC : MsW a) zo zo (qC : MsW m)), zo⟩ ?_
  refine AW.ret ?_
  exact kA (.inr rfl) [] (P := ((sgB a m) = false) ∧ (kJ [iD k, dl r rn, D.sl (kI m) c, dl s sn])) zk ⟨(by exact v3i hn zo), rfl⟩
abbrev cX (k2 : Int) (r2 : List Int) (rn2 : Nat) (m2 : List (List Int)) (c2 : Nat) (s2 : List Int) (sn2 : Nat) : BC := .ds [iD k2, D.sl (dI .i64 r2) rn2, D.sl (kI m2) c2, D.sl (dI .i64 s2) sn2]
theorem k45 (k : Int) (r : List Int) (rn : Nat) (m : List (List Int)) (c : Nat) (s : List Int) (sn : Nat) (k2 : Int) (r2 : List Int) (rn2 : Nat) (m2 : List (List Int)) (c2 : Nat) (s2 : List Int) (sn2 : Nat) (hr : ka0 r = rn * 2) (hs : ka0 s = sn * 2) (hc : ka0 m = c) (h1 : rn ≤ 1000000) (h2 : sn ≤ 1000000) (h3 : c ≤ 1000000) (hW : MsW m) (hr2 : ka0 r2 = rn2 * 2) (hs2 : ka0 s2 = sn2 * 2) (hc2 : ka0 m2 = c2) (h12 : rn2 ≤ 1000000) (h22 : sn2 ≤ 1000000) (h32 : c2 ≤ 1000000) (hW2 : MsW m2) : Fun 93 [.agg [iC k, .d (D.sl (dI .i64 r) rn), .d (D.sl (kI m) c), .d (D.sl (dI .i64 s) sn)], .agg [iC k2, .d (D.sl (dI .i64 r2) rn2), .d (D.sl (kI m2) c2), .d (D.sl (dI .i64 s2) sn2)]] (kF []) 0 (uJ (D.lit (.bool (nP k r rn m s sn k2 r2 rn2 m2 s2 sn2)))) (kF []) 0 := by
 refine Fun.mk (n := 34) Tryz.func93 rfl rfl (ka4 rfl) ?_
 intro cx hcx
 refine kH [.no, .no, .no] True [(2, rV 0 0), (3, rV 1 0)] [(0, some (63, .ds [iD k, dl r rn, D.sl (kI m) c, dl s sn])), (1, some (63, (cX k2 r2 rn2 m2 c2 s2 sn2)))] 2 trivial ?_
 refine kQ [.no, .no] True [(2, rV 0 0), (3, rV 1 0), (5, .e (.c (.fn 130 [(1, 0)])))] trivial ?_
 by_cases hx1 : ((nZ k k2) = 0)
 ·rcases ka9 (wT (kB r rn) (kB r2 rn2)) with hx2 | hx2
  ·rcases ka9 (sgB m m2) with hx3 | hx3
   ·refine kH (qD 4 (.i (nZ k k2) :: .b true :: qD 5 (.call [] (bV true) [] 0 [] none :: qD 5 (.call [1] (bV true) [(0, some (63, (cX k2 r2 rn2 m2 c2 s2 sn2)))] 1 [] none :: qD 5 [])))) ((qE .andNot .i64 k k2 = (nZ k k2)) ∧ (((nZ k k2) = 0)) ∧ (Fun 131 [.agg [.d (dl r rn)], .agg [.d (dl r2 rn2)]] (kF []) 0 (bV true) (kF []) 0) ∧ (Fun 132 [.c (.d (D.sl (kI m) c)), .c (.fn 130 [(0, 0)])] (kF [(0, some (63, (cX k2 r2 rn2 m2 c2 s2 sn2)))]) 1 (bV true) (kF [(0, some (63, (cX k2 r2 rn2 m2 c2 s2 sn2)))]) 1)) [(4, bV false)] [] 2 ⟨rfl, zo, (by have h0 := (dN r r2 rn rn2 zo zo zo zo); rw [hx2] at h0; exact h0), (by have h0 := (u05 m c k2 r2 rn2 m2 c2 s2 sn2 zo zo (qC : MsW m) zo zo (qC : MsW m2)); rw [hx3] at h0; exact h0)⟩ ?_
    refine AW.ret ?_
    exact kA (.inr rfl) [] (P := ((nP k r rn m s sn k2 r2 rn2 m2 s2 sn2) = false)) zk (by exact v4b (by assumption))
   ·rcases ka9 (wT (kB s sn) (kB s2 sn2)) with hx4 | hx4
    ·refine kH (qD 4 (.i (nZ k k2) :: .b true :: qD 5 (.call [] (bV true) [] 0 [] none :: qD 5 (.call [1] (bV false) [(0, some (63, (cX k2 r2 rn2 m2 c2 s2 sn2)))] 1 [] none :: qD 7 [.call [] (bV true) [] 0 [] none, .no, .no])))) ((qE .andNot .i64 k k2 = (nZ k k2)) ∧ (((nZ k k2) = 0)) ∧ (Fun 131 [.agg [.d (dl r rn)], .agg [.d (dl r2 rn2)]] (kF []) 0 (bV true) (kF []) 0) ∧ (Fun 132 [.c (.d (D.sl (kI m) c)), .c (.fn 130 [(0, 0)])] (kF [(0, some (63, (cX k2 r2 rn2 m2 c2 s2 sn2)))]) 1 (bV false) (kF [(0, some (63, (cX k2 r2 rn2 m2 c2 s2 sn2)))]) 1) ∧ (Fun 131 [.agg [.d (dl s sn)], .agg [.d (dl s2 sn2)]] (kF []) 0 (bV true) (kF []) 0)) [(4, bV true)] [] 2 ⟨rfl, zo, (by have h0 := (dN r r2 rn rn2 zo zo zo zo); rw [hx2] at h0; exact h0), (by have h0 := (u05 m c k2 r2 rn2 m2 c2 s2 sn2 zo zo (qC : MsW m) zo zo (qC : MsW m2)); rw [hx3] at h0; exact h0), (by have h0 := (dN s s2 sn sn2 zo zo zo zo); rw [hx4] at h0; exact h0)⟩ ?_
     refine AW.ret ?_
     exact kA (.inr rfl) [] (P := ((nP k r rn m s sn k2 r2 rn2 m2 s2 sn2) = true)) zk (by exact v48 zo (by assumption) (by assumption) (by assumption))
    ·refine kH (qD 4 (.i (nZ k k2) :: .b true :: qD 5 (.call [] (bV true) [] 0 [] none :: qD 5 (.call [1] (bV false) [(0, some (63, (cX k2 r2 rn2 m2 c2 s2 sn2)))] 1 [] none :: qD 7 [.call [] (bV false) [] 0 [] none, .no, .no])))) ((qE .andNot .i64 k k2 = (nZ k k2)) ∧ (((nZ k k2) = 0)) ∧ (Fun 131 [.agg [.d (dl r rn)], .agg [.d (dl r2 rn2)]] (kF []) 0 (bV true) (kF []) 0) ∧ (Fun 132 [.c (.d (D.sl (kI m) c)), .c (.fn 130 [(0, 0)])] (kF [(0, some (63, (cX k2 r2 rn2 m2 c2 s2 sn2)))]) 1 (bV false) (kF [(0, some (63, (cX k2 r2 rn2 m2 c2 s2 sn2)))]) 1) ∧ (Fun 131 [.agg [.d (dl s sn)], .agg [.d (dl s2 sn2)]] (kF []) 0 (bV false) (kF []) 0)) [(4, bV false)] [] 2 ⟨rfl, zo, (by have h0 := (dN r r2 rn rn2 zo zo zo zo); rw [hx2] at h0; exact h0), (by have h0 := (u05 m c k2 r2 rn2 m2 c2 s2 sn2 zo zo (qC : MsW m) zo zo (qC : MsW m2)); rw [hx3] at h0; exact h0), (by have h0 := (dN s s2 sn sn2 zo zo zo zo); rw [hx4] at h0; exact h0)⟩ ?_
     refine AW.ret ?_
     exact kA (.inr rfl) [] (P := ((nP k r rn m s sn k2 r2 rn2 m2 s2 sn2) = false)) zk (by exact v49 (by assumption))
  ·refine kH (qD 4 (.i (nZ k k2) :: .b true :: qD 5 (.call [] (bV false) [] 0 [] none :: qD 6 []))) ((qE .andNot .i64 k k2 = (nZ k k2)) ∧ (((nZ k k2) = 0)) ∧ (Fun 131 [.agg [.d (dl r rn)], .agg [.d (dl r2 rn2)]] (kF []) 0 (bV false) (kF []) 0)) [(4, bV false)] [] 2 ⟨rfl, zo, (by have h0 := (dN r r2 rn rn2 zo zo zo zo); rw [hx2] at h0; exact h0)⟩ ?_
   refine AW.ret ?_
   exact kA (.inr rfl) [] (P := ((nP k r rn m s sn k2 r2 rn2 m2 s2 sn2) = false)) zk (by exact v4a (by assumption))
 ·refine kH (qD 4 (.i (nZ k k2) :: .b false :: qD 7 [])) ((qE .andNot .i64 k k2 = (nZ k k2)) ∧ (¬ ((nZ k k2) = 0))) [(4, bV false)] [] 2 ⟨rfl, zo⟩ ?_
  refine AW.ret ?_
  exact kA (.inr rfl) [] (P := ((nP k r rn m s sn k2 r2 rn2 m2 s2 sn2) = false)) zk (by exact v4c zo)
theorem u03 (xs : List Bx) (n i : Nat) (hn : ka0 xs = n) (h1 : n ≤ 1000000) (hW : BsW xs) (hi : i < n) : Fun 61 [.c (.d (D.sl (kP xs) n)), iE ((i : Nat) : Int)] (kF []) 0 (uJ (D.lit (.bool (goB xs i)))) (kF []) 0 := by
 refine Fun.mk (n := 40) Tryz.func61 rfl rfl (ka4 rfl) ?_
 intro cx hcx
 refine kH [.no] True [(0, .e (kY xs n)), (1, uV i)] [] 0 trivial ?_
 refine AW.seq ?_
 refine kQ [.no, .no, .no] True [(0, .e (kY xs n)), (1, uV i), (7, .e (kY xs n)), (8, uV n), (9, iV 0)] trivial ?_
 refine AW.block ?_
 refine kX 0 hcx (fun (x : {x : Nat // match x with | z => (z ≤ n) ∧ (∀ j, j < z → nE xs i j = false)}) => match x with | ⟨z, _⟩ => (⟨[(0, .e (kY xs n)), (1, uV i), (7, .e (kY xs n)), (8, uV n), (9, uV z)], [], 0⟩ : ES)) (fun x => match x with | ⟨z, _⟩ => n - z) ⟨(0 : Nat), ⟨zo, (fun j hj => absurd hj (Nat.not_lt_zero j))⟩⟩ [] (P := (kJ (kP xs)) ∧ (kG n) ∧ (kM (i : Int)) ∧ (kJ (kP xs)) ∧ (kG n) ∧ (kM (n : Int)) ∧ (kM 0)) zk ⟨rfl, rfl, rfl, rfl, rfl, rfl, rfl⟩ ?_
 rintro ⟨z, hinv0⟩
 obtain ⟨hz, ha⟩ : (z ≤ n) ∧ (∀ j, j < z → nE xs i j = false) := hinv0
 refine qU (l := [(0, .e (kY xs n)), (1, uV i), (7, .e (kY xs n)), (8, uV n), (9, uV z)]) (g := []) (nx := 0) rfl rfl rfl ?_
 by_cases hx1 : (((z : Nat) : Int) < ((n : Nat) : Int))
 ·refine kH [.b true] (((z : Int) < (n : Int))) [(0, .e (kY xs n)), (1, uV i), (7, .e (kY xs n)), (8, uV n), (9, uV z), (10, bV true)] [] 0 zo ?_
  refine AW.seq ?_
  refine vI ?_
  refine AW.seq ?_
  refine AW.block ?_
  obtain ⟨hx2, hx3, hx4, hx5, hx6⟩ := BsW.at (qC : BsW xs) (z)
  refine kH [.no, .n z, .ds (yJ xs z), .no, .no, .no] ((kM (z : Int)) ∧ (z < n) ∧ (ka5 4 (ka3 (z * 4) (kP xs)) = (yJ xs z)) ∧ (((yJ xs z) : List D).length = 4)) [(0, .e (kY xs n)), (1, uV i), (5, uV z), (6, rV 0 0), (7, .e (kY xs n)), (8, uV n), (9, uV z)] [(0, some (63, .ds (yJ xs z)))] 1 ⟨rfl, zo, (vH zo), rfl⟩ ?_
  by_cases hx7 : (((z : Nat) : Int) ≠ ((i : Nat) : Int))
  ·rcases ka9 (nP (kR xs i) (k8 xs i) (kU xs i) (kS xs i) (kZ xs i) (kT xs i) (kR xs z) (k8 xs z) (kU xs z) (kS xs z) (kZ xs z) (kT xs z)) with hx13 | hx13
   ·by_cases hx19 : (((z : Nat) : Int) < ((i : Nat) : Int))
    ·obtain ⟨hx20, hx21, hx22, hx23, hx24⟩ := BsW.at (qC : BsW xs) (i)
     refine kH [.no, .no, .b true, .no, .no, .no, .n i, .ds (yJ xs i), .no, .call [] (bV true) [] 0 [] none, .no, .no, .no, .no, .b true, .no, .no, .no] ((((z : Int) ≠ (i : Int))) ∧ (kM (i : Int)) ∧ (i < n) ∧ (ka5 4 (ka3 (i * 4) (kP xs)) = (yJ xs i)) ∧ (((yJ xs i) : List D).length = 4) ∧ (Fun 93 [(nL xs i), (nL xs z)] (kF []) 0 (bV true) (kF []) 0) ∧ (((z : Int) < (i : Int)))) [(0, .e (kY xs n)), (1, uV i), (7, .e (kY xs n)), (8, uV n), (9, uV z), (38, bV true)] [] 1 ⟨zo, rfl, zo, (vH zo), rfl, (by have h0 := (k45 (kR xs i) (k8 xs i) (kU xs i) (kS xs i) (ka0 (kS xs i)) (kZ xs i) (kT xs i) (kR xs z) (k8 xs z) (kU xs z) (kS xs z) (ka0 (kS xs z)) (kZ xs z) (kT xs z) zo zo rfl zo zo zo (BsW.ms (qC : BsW xs) _) zo zo rfl zo zo zo (BsW.ms (qC : BsW xs) _)); rw [hx13] at h0; exact h0), zo⟩ ?_
     refine zt ?_
     refine kQ [.no] True [(4, bV true)] trivial ?_
     refine AW.ret ?_
     exact kA (.inr rfl) [] (P := ((goB xs i) = true)) zk (by exact v18 (j := z) zo (by exact v4x zo (by assumption) zo))
    ·rcases ka9 (nP (kR xs z) (k8 xs z) (kU xs z) (kS xs z) (kZ xs z) (kT xs z) (kR xs i) (k8 xs i) (kU xs i) (kS xs i) (kZ xs i) (kT xs i)) with hx30 | hx30
     ·obtain ⟨hx31, hx32, hx33, hx34, hx35⟩ := BsW.at (qC : BsW xs) (i)
      refine kH (.no :: .no :: .b true :: .no :: .no :: .no :: .n i :: .ds (yJ xs i) :: .no :: .call [] (bV true) [] 0 [] none :: qD 4 (.b false :: qD 4 [.n i, .ds (yJ xs i), .call [] (bV true) [] 0 [] none, .no, .no, .no])) ((((z : Int) ≠ (i : Int))) ∧ (kM (i : Int)) ∧ (i < n) ∧ (ka5 4 (ka3 (i * 4) (kP xs)) = (yJ xs i)) ∧ (((yJ xs i) : List D).length = 4) ∧ (Fun 93 [(nL xs i), (nL xs z)] (kF []) 0 (bV true) (kF []) 0) ∧ (¬ ((z : Int) < (i : Int))) ∧ (kM (i : Int)) ∧ (i < n) ∧ (ka5 4 (ka3 (i * 4) (kP xs)) = (yJ xs i)) ∧ (((yJ xs i) : List D).length = 4) ∧ (Fun 93 [(nL xs z), (nL xs i)] (kF []) 0 (bV true) (kF []) 0)) [(0, .e (kY xs n)), (1, uV i), (7, .e (kY xs n)), (8, uV n), (9, uV z), (38, bV false)] [] 1 ⟨zo, rfl, zo, (vH zo), rfl, (by have h0 := (k45 (kR xs i) (k8 xs i) (kU xs i) (kS xs i) (ka0 (kS xs i)) (kZ xs i) (kT xs i) (kR xs z) (k8 xs z) (kU xs z) (kS xs z) (ka0 (kS xs z)) (kZ xs z) (kT xs z) zo zo rfl zo zo zo (BsW.ms (qC : BsW xs) _) zo zo rfl zo zo zo (BsW.ms (qC : BsW xs) _)); rw [hx13] at h0; exact h0), zo, rfl, zo, (vH zo), rfl, (by have h0 := (k45 (kR xs z) (k8 xs z) (kU xs z) (kS xs z) (ka0 (kS xs z)) (kZ xs z) (kT xs z) (kR xs i) (k8 xs i) (kU xs i) (kS xs i) (ka0 (kS xs i)) (kZ xs i) (kT xs i) zo zo rfl zo zo zo (BsW.ms (qC : BsW xs) _) zo zo rfl zo zo zo (BsW.ms (qC : BsW xs) _)); rw [hx30] at h0; exact h0)⟩ ?_
      refine uP ?_
      refine u2 [.w, .no] (uZ ((z : Int) + 1)) [(0, .e (kY xs n)), (1, uV i), (7, .e (kY xs n)), (8, uV n), (9, iV (↑z + 1))] ⟨by omega, by omega⟩ ?_
      exact kV ⟨((z + 1) : Nat), ⟨zo, (fun j hj => (Nat.lt_succ_iff_lt_or_eq.1 hj).elim (ha j) (fun e9 => by subst e9; exact v4z (by assumption) zo))⟩⟩ [] (P := (kJ (kP xs)) ∧ (kG n) ∧ (kM (i : Int)) ∧ (kJ (kP xs)) ∧ (kG n) ∧ (kM (n : Int)) ∧ (bU z)) zk ⟨rfl, rfl, rfl, rfl, rfl, rfl, (by rfl)⟩ (show n - (z + 1) < n - z from zo)
     ·obtain ⟨hx36, hx37, hx38, hx39, hx40⟩ := BsW.at (qC : BsW xs) (i)
      refine kH (.no :: .no :: .b true :: .no :: .no :: .no :: .n i :: .ds (yJ xs i) :: .no :: .call [] (bV true) [] 0 [] none :: qD 4 (.b false :: qD 4 [.n i, .ds (yJ xs i), .call [] (bV false) [] 0 [] none, .no, .no, .no])) ((((z : Int) ≠ (i : Int))) ∧ (kM (i : Int)) ∧ (i < n) ∧ (ka5 4 (ka3 (i * 4) (kP xs)) = (yJ xs i)) ∧ (((yJ xs i) : List D).length = 4) ∧ (Fun 93 [(nL xs i), (nL xs z)] (kF []) 0 (bV true) (kF []) 0) ∧ (¬ ((z : Int) < (i : Int))) ∧ (kM (i : Int)) ∧ (i < n) ∧ (ka5 4 (ka3 (i * 4) (kP xs)) = (yJ xs i)) ∧ (((yJ xs i) : List D).length = 4) ∧ (Fun 93 [(nL xs z), (nL xs i)] (kF []) 0 (bV false) (kF []) 0)) [(0, .e (kY xs n)), (1, uV i), (7, .e (kY xs n)), (8, uV n), (9, uV z), (38, bV true)] [] 1 ⟨zo, rfl, zo, (vH zo), rfl, (by have h0 := (k45 (kR xs i) (k8 xs i) (kU xs i) (kS xs i) (ka0 (kS xs i)) (kZ xs i) (kT xs i) (kR xs z) (k8 xs z) (kU xs z) (kS xs z) (ka0 (kS xs z)) (kZ xs z) (kT xs z) zo zo rfl zo zo zo (BsW.ms (qC : BsW xs) _) zo zo rfl zo zo zo (BsW.ms (qC : BsW xs) _)); rw [hx13] at h0; exact h0), zo, rfl, zo, (vH zo), rfl, (by have h0 := (k45 (kR xs z) (k8 xs z) (kU xs z) (kS xs z) (ka0 (kS xs z)) (kZ xs z) (kT xs z) (kR xs i) (k8 xs i) (kU xs i) (kS xs i) (ka0 (kS xs i)) (kZ xs i) (kT xs i) zo zo rfl zo zo zo (BsW.ms (qC : BsW xs) _) zo zo rfl zo zo zo (BsW.ms (qC : BsW xs) _)); rw [hx30] at h0; exact h0)⟩ ?_
      refine zt ?_
      refine kQ [.no] True [(4, bV true)] trivial ?_
      refine AW.ret ?_
      exact kA (.inr rfl) [] (P := ((goB xs i) = true)) zk (by exact v18 (j := z) zo (by exact v4w zo (by assumption) (by assumption)))
   ·obtain ⟨hx41, hx42, hx43, hx44, hx45⟩ := BsW.at (qC : BsW xs) (i)
    refine kH [.no, .no, .b true, .no, .no, .no, .n i, .ds (yJ xs i), .no, .call [] (bV false) [] 0 [] none, .no, .no, .no] ((((z : Int) ≠ (i : Int))) ∧ (kM (i : Int)) ∧ (i < n) ∧ (ka5 4 (ka3 (i * 4) (kP xs)) = (yJ xs i)) ∧ (((yJ xs i) : List D).length = 4) ∧ (Fun 93 [(nL xs i), (nL xs z)] (kF []) 0 (bV false) (kF []) 0)) [(0, .e (kY xs n)), (1, uV i), (7, .e (kY xs n)), (8, uV n), (9, uV z), (38, bV false)] [] 1 ⟨zo, rfl, zo, (vH zo), rfl, (by have h0 := (k45 (kR xs i) (k8 xs i) (kU xs i) (kS xs i) (ka0 (kS xs i)) (kZ xs i) (kT xs i) (kR xs z) (k8 xs z) (kU xs z) (kS xs z) (ka0 (kS xs z)) (kZ xs z) (kT xs z) zo zo rfl zo zo zo (BsW.ms (qC : BsW xs) _) zo zo rfl zo zo zo (BsW.ms (qC : BsW xs) _)); rw [hx13] at h0; exact h0)⟩ ?_
    refine uP ?_
    refine u2 [.w, .no] (uZ ((z : Int) + 1)) [(0, .e (kY xs n)), (1, uV i), (7, .e (kY xs n)), (8, uV n), (9, iV (↑z + 1))] ⟨by omega, by omega⟩ ?_
    exact kV ⟨((z + 1) : Nat), ⟨zo, (fun j hj => (Nat.lt_succ_iff_lt_or_eq.1 hj).elim (ha j) (fun e9 => by subst e9; exact v4y (by assumption)))⟩⟩ [] (P := (kJ (kP xs)) ∧ (kG n) ∧ (kM (i : Int)) ∧ (kJ (kP xs)) ∧ (kG n) ∧ (kM (n : Int)) ∧ (bU z)) zk ⟨rfl, rfl, rfl, rfl, rfl, rfl, (by rfl)⟩ (show n - (z + 1) < n - z from zo)
  ·refine kH (.no :: .no :: .b false :: qD 4 []) (¬ ((z : Int) ≠ (i : Int))) [(0, .e (kY xs n)), (1, uV i), (7, .e (kY xs n)), (8, uV n), (9, uV z), (38, bV false)] [] 1 zo ?_
   refine uP ?_
   refine u2 [.w, .no] (uZ ((z : Int) + 1)) [(0, .e (kY xs n)), (1, uV i), (7, .e (kY xs n)), (8, uV n), (9, iV (↑z + 1))] ⟨by omega, by omega⟩ ?_
   exact kV ⟨((z + 1) : Nat), ⟨zo, (fun j hj => (Nat.lt_succ_iff_lt_or_eq.1 hj).elim (ha j) (fun e9 => by subst e9; exact u70 zo))⟩⟩ [] (P := (kJ (kP xs)) ∧ (kG n) ∧ (kM (i : Int)) ∧ (kJ (kP xs)) ∧ (kG n) ∧ (kM (n : Int)) ∧ (bU z)) zk ⟨rfl, rfl, rfl, rfl, rfl, rfl, (by rfl)⟩ (show n - (z + 1) < n - z from zo)
 ·refine kH [.b false] (¬ ((z : Int) < (n : Int))) [(0, .e (kY xs n)), (1, uV i), (7, .e (kY xs n)), (8, uV n), (9, uV z), (10, bV false)] [] 0 zo ?_
  refine AW.seq ?_
  refine zf ?_
  refine AW.exit ?_
  refine kH [.no] True [(4, bV false)] [] 0 trivial ?_
  refine AW.ret ?_
  exact kA (.inr rfl) [] (P := ((goB xs i) = false)) zk (by exact v19 (fun j hj => ha j zo))
theorem pG {p : Prop} (h : p := by rw [kd3, kb7 (by (simp only [qA, k9, qP, ka8, kb0, kb2, kb4, kb6, kb5, kc1, kc3, kc0, kc6] <;> omega))]) : p := h
theorem aM {p : Prop} (h : p := by (simp only [qA, k9, qP, ka8, kb0, kb2, kb4, kb6, kb5, kc1, kc3, kc0, kc6] <;> omega)) : p := h
theorem u04 (l : List Int) (n : Nat) (hl : ka0 l = n * 2) (hb : n ≤ 1000000) : Fun 94 [.agg [.d (D.sl (dI .i64 l) n)]] (kF []) 0 (.e (.agg [.d (D.sl (dI .i64 l) n)])) (kF []) 0 := by
 refine Fun.mk (n := 7) Tryz.func94 rfl rfl (ka4 rfl) ?_
 intro cx hcx
 refine kH [.no, .no] True [(1, rV 0 0), (2, rV 1 0)] [(0, some (60, .ds [dl l n])), (1, some (60, .ds [qJ]))] 2 trivial ?_
 refine kH [.no, .no, .call [] (oV 0 0 n 2) [(0, some (95, .ds (dI .i64 l)))] 1 [] none, .no, .no] _ [(2, rV 1 0)] [(1, some (60, .cs [.own 2 0 n 2 true])), (2, some (95, .ds (dI .i64 l)))] 3 (u2u l n zo zo) ?_
 refine AW.freeze 2 (l' := [(2, rV 1 0)]) (g' := [(1, some (60, .ds [dl l n]))]) rfl (FzS.cons rfl (.same _) FzS.nil) (FzG.to (bc := .cs [.own 2 0 n 2 true]) rfl (by rfl) (FzL.cons (@FzC.own 2 ((dI .i64 l) : List D) 0 n 2 true ((dI .i64 l) : List D) pG aM) FzL.nil) FzG.nil) ?_
 refine AW.ret ?_
 exact kA (.inr rfl) [] (P := (kJ (dI .i64 l)) ∧ (kG n)) zk ⟨rfl, rfl⟩
theorem u2v (m : List (List Int)) (c : Nat) (hc : ka0 m = c) (h3 : c ≤ 1000000) (hW : MsW m) : Fun 95 [.c (.d (D.sl (kI m) c)), .c (.fn 96 [])] (kF []) 0 (qB (kI m) c) (kF []) 0 := by
 refine Fun.mk (n := 22) Tryz.func95 rfl rfl (ka4 rfl) ?_
 intro cx hcx
 refine kH [.no] True [(0, qB (kI m) c), (1, .e (.c (.fn 96 [])))] [] 0 trivial ?_
 refine kQ [.no] True [(0, qB (kI m) c), (1, .e (.c (.fn 96 []))), (5, nV)] trivial ?_
 refine AW.seq ?_
 refine kQ [.no, .no, .no] True [(1, .e (.c (.fn 96 []))), (5, nV), (8, qB (kI m) c), (9, uV c), (10, iV 0)] trivial ?_
 refine AW.block ?_
 refine AW.adoptS 5 1 38 rfl ?_
 refine kX 0 hcx (fun (x : {x : Nat // match x with | z => (z ≤ c)}) => match x with | ⟨z, _⟩ => (⟨[(1, .e (.c (.fn 96 []))), (5, oV 1 0 z 1), (8, qB (kI m) c), (9, uV c), (10, uV z)], [(1, some (38, .ds (kI (ka5 z m))))], 2⟩ : ES)) (fun x => match x with | ⟨z, _⟩ => c - z) ⟨(0 : Nat), (show ((0 : Nat) ≤ c) from zo)⟩ [(1, 0)] (P := (kG 0) ∧ (kG 0) ∧ (kJ (kI m)) ∧ (kG c) ∧ (kM (c : Int)) ∧ (kM 0) ∧ (((kI (ka5 0 m)) : List D) = ([] : List D))) zk ⟨rfl, rfl, rfl, rfl, rfl, rfl, (by rfl)⟩ ?_
 rintro ⟨z, hinv0⟩
 have hz : (z ≤ c) := hinv0
 refine qU (l := [(1, .e (.c (.fn 96 []))), (5, oV 1 0 z 1), (8, qB (kI m) c), (9, uV c), (10, uV z)]) (g := [(1, some (38, .ds (kI (ka5 z m))))]) (nx := 2) rfl rfl rfl ?_
 by_cases hx1 : (((z : Nat) : Int) < ((c : Nat) : Int))
 ·refine kH [.b true] (((z : Int) < (c : Int))) [(1, .e (.c (.fn 96 []))), (5, oV 1 0 z 1), (8, qB (kI m) c), (9, uV c), (10, uV z), (11, bV true)] [(1, some (38, .ds (kI (ka5 z m))))] 2 zo ?_
  refine AW.seq ?_
  refine vI ?_
  refine AW.seq ?_
  refine AW.block ?_
  have hx2 : ((ka0 (ka1 m z ([] : List Int))) ≤ 1000000) := MsW.at (qC : MsW m) _
  refine kQ [.n z, .d (dl (ka1 m z ([] : List Int)) (ka0 (ka1 m z ([] : List Int)))), .no] ((kM (z : Int)) ∧ (z < c) ∧ ((ka3 z (kI m))[0]? = some (dl (ka1 m z ([] : List Int)) (ka0 (ka1 m z ([] : List Int)))))) [(1, .e (.c (.fn 96 []))), (5, oV 1 0 z 1), (7, sV .i64 (ka1 m z ([] : List Int)) (ka0 (ka1 m z ([] : List Int)))), (8, qB (kI m) c), (9, uV c), (10, uV z)] ⟨rfl, zo, (a7 _ _ zo)⟩ ?_
  refine vY [.no, .no, .no, (.fz (.call [] (oV 0 0 (ka0 (ka1 m z ([] : List Int))) 1) [(0, some (3, .ds (dI .i64 (ka1 m z ([] : List Int)))))] 1 [] none)), .no, .ap none (z + 1) (kI ((ka5 z m) ++ ([(ka1 m z ([] : List Int))] : List (List Int)))), .no] ((_) ∧ (((dI .i64 (ka1 m z ([] : List Int))) : List D).length = (ka0 (ka1 m z ([] : List Int))) * 1) ∧ ([dl (ka1 m z ([] : List Int)) (ka0 (ka1 m z ([] : List Int)))].length = 1 * 1) ∧ (((kI (ka5 z m)) : List D).length = z * 1) ∧ ((z + 1) * 24 ≤ 140737488355328) ∧ (z + 1 = (z + 1)) ∧ (((kI (ka5 z m)) : List D) ++ [dl (ka1 m z ([] : List Int)) (ka0 (ka1 m z ([] : List Int)))] = (kI ((ka5 z m) ++ ([(ka1 m z ([] : List Int))] : List (List Int)))))) [(1, .e (.c (.fn 96 []))), (5, oV 4 0 (z + 1) 1), (8, qB (kI m) c), (9, uV c), (10, uV z)] [(4, some (38, .ds (kI ((ka5 z m) ++ ([(ka1 m z ([] : List Int))] : List (List Int))))))] 5 ⟨(cW (ka1 m z ([] : List Int)) (ka0 (ka1 m z ([] : List Int))) rfl zo), aM, aM, aM, zo, zo, (rJ (ka5 z m) (ka1 m z ([] : List Int)) (ka0 (ka1 m z ([] : List Int))) (by rfl))⟩ ?_
  refine u2 [.w, .no] (uZ ((z : Int) + 1)) [(1, .e (.c (.fn 96 []))), (5, oV 4 0 (z + 1) 1), (8, qB (kI m) c), (9, uV c), (10, iV (↑z + 1))] ⟨by omega, by omega⟩ ?_
  exact kV ⟨((z + 1) : Nat), (show ((z + 1) ≤ c) from zo)⟩ [(1, 4)] (P := (kG 0) ∧ (kG (z + 1)) ∧ (kJ (kI m)) ∧ (kG c) ∧ (kM (c : Int)) ∧ (bU z) ∧ (((kI (ka5 (z + 1) m)) : List D) = (kI ((ka5 z m) ++ ([(ka1 m z ([] : List Int))] : List (List Int)))))) zk ⟨rfl, rfl, rfl, rfl, rfl, (by rfl), (by (rw [u0x (by omega)]))⟩ (show c - (z + 1) < c - z from zo)
 ·refine kH [.b false] (¬ ((z : Int) < (c : Int))) [(1, .e (.c (.fn 96 []))), (5, oV 1 0 z 1), (8, qB (kI m) c), (9, uV c), (10, uV z), (11, bV false)] [(1, some (38, .ds (kI (ka5 z m))))] 2 zo ?_
  refine AW.seq ?_
  refine zf ?_
  refine AW.exit ?_
  refine kH [.no, .no] True [(4, oV 1 0 z 1)] [(1, some (38, .ds (kI (ka5 z m))))] 2 trivial ?_
  refine AW.freeze 1 (l' := [(4, qB (kI (ka5 z m)) z)]) (g' := []) rfl (FzS.cons rfl (.e (.c (@FzC.own 1 ((kI (ka5 z m)) : List D) 0 z 1 true ((kI (ka5 z m)) : List D) (by rw [kd3, kc6, kb7 (by (simp only [qA, k9, qP, ka8, kb0, kb2, kb4, kb6, kb5, kc1, kc3, kc0, kc6] <;> omega))]) aM))) FzS.nil) FzG.nil ?_
  have hz1 : ka5 z m = m := kb7 (by omega)
  refine AW.ret ?_
  exact kA (.inr rfl) [] (P := (((kI m) : List D) = (kI (ka5 z m))) ∧ ((c : Nat) = z)) zk ⟨(by (rw [hz1]; done)), zo⟩
abbrev u5v : BC := .ds [iD 0, D.lit (.slice none 0 0), D.lit (.slice none 0 0), D.lit (.slice none 0 0)]
theorem u89 (k : Int) (r : List Int) (rn : Nat) (m : List (List Int)) (c : Nat) (s : List Int) (sn : Nat) (hr : ka0 r = rn * 2) (hs : ka0 s = sn * 2) (hc : ka0 m = c) (h1 : rn ≤ 1000000) (h2 : sn ≤ 1000000) (h3 : c ≤ 1000000) (hW : MsW m) : Fun 62 [.agg [iC k, .d (D.sl (dI .i64 r) rn), .d (D.sl (kI m) c), .d (D.sl (dI .i64 s) sn)]] (kF []) 0 (.e (.agg [iC k, .d (D.sl (dI .i64 r) rn), .d (D.sl (kI m) c), .d (D.sl (dI .i64 s) sn)])) (kF []) 0 := by
 refine Fun.mk (n := 16) Tryz.func62 rfl rfl (ka4 rfl) ?_
 intro cx hcx
 refine kH [.no, .no] True [(1, rV 0 0), (2, rV 1 0)] [(0, some (63, .ds [iD k, dl r rn, D.sl (kI m) c, dl s sn])), (1, some (63, u5v))] 2 trivial ?_
 refine kQ [.no, .no, .call [] (.e (.agg [.d (dl r rn)])) [] 0 [] none, .no, .no] _ [(1, rV 0 0), (2, rV 1 0)] (u04 r rn zo zo) ?_
 refine kQ [.no, .no, .call [] (qB (kI m) c) [] 0 [] none, .no, .no] _ [(1, rV 0 0), (2, rV 1 0)] (u2v m c zo zo (qC : MsW m)) ?_
 refine kQ [.no, .no, .call [] (.e (.agg [.d (dl s sn)])) [] 0 [] none, .no, .no] _ [(1, rV 0 0), (2, rV 1 0)] (u04 s sn zo zo) ?_
 refine kH [.no, .no] True [(2, rV 1 0)] [(1, some (63, .ds [iD k, dl r rn, D.sl (kI m) c, dl s sn]))] 2 trivial ?_
 refine AW.ret ?_
 exact kA (.inr rfl) [] (P := (kM k) ∧ (kJ (dI .i64 r)) ∧ (kG rn) ∧ (kJ (kI m)) ∧ (kG c) ∧ (kJ (dI .i64 s)) ∧ (kG sn)) zk ⟨rfl, rfl, rfl, rfl, rfl, rfl, rfl⟩
theorem zD {p : Prop} (h : p := by (simp only [qA, k9, ka8, kb0, kb2] <;> omega)) : p := h
abbrev u0h (xs : List Bx) (i : Nat) : BC := .ds [iD (kR xs i), D.sl (dI .i64 (k8 xs i)) (kU xs i), D.sl (kI (kS xs i)) (ka0 (kS xs i)), D.sl (dI .i64 (kZ xs i)) (kT xs i)]
theorem u02 (xs : List Bx) (n : Nat) (hn : ka0 xs = n) (h1 : n ≤ 1000000) (hW : BsW xs) : Fun 32 [.c (.d (D.sl (kP xs) n))] (kF []) 0 (.tup [.c (.d (D.sl (kP (aZ xs)) (ka0 (aZ xs)))), iE (iM xs)]) (kF []) 0 := by
 refine Fun.mk (n := 28) Tryz.func32 rfl rfl (ka4 rfl) ?_
 intro cx hcx
 refine kH [.no, .no] True [(0, .e (kY xs n))] [] 0 trivial ?_
 refine AW.seq ?_
 rcases ka9 (bY xs) with hx1 | hx1
 ·refine kQ [.no, .call [] (bV true) [] 0 [] none, .no] (Fun 60 [.c (.d (D.sl (kP xs) n))] (kF []) 0 (bV true) (kF []) 0) [(0, .e (kY xs n)), (9, bV false)] (by have h0 := (vV xs n zo zo (qC : BsW xs)); rw [hx1] at h0; exact h0) ?_
  refine uP ?_
  refine kQ [.no] True [(0, .e (kY xs n)), (4, nV)] trivial ?_
  refine AW.seq ?_
  refine kQ [.no, .no, .no] True [(0, .e (kY xs n)), (4, nV), (10, .e (kY xs n)), (11, uV n), (12, iV 0)] trivial ?_
  refine AW.block ?_
  refine AW.adoptS 4 4 63 rfl ?_
  refine kX 0 hcx (fun (x : {x : Nat × Nat × List Bx // match x with | (i, q, o) => (i ≤ n ∧ q ≤ i) ∧ (oB xs i = o) ∧ (ka0 o = q)}) => match x with | ⟨(i, q, o), _⟩ => (⟨[(0, .e (kY xs n)), (4, oV 1 0 q 4), (10, .e (kY xs n)), (11, uV n), (12, uV i)], [(1, some (63, .ds (kP o)))], 2⟩ : ES)) (fun x => match x with | ⟨(i, q, o), _⟩ => n - i) ⟨((0 : Nat), (0 : Nat), (([] : List Bx) : List Bx)), ⟨zo, rfl, rfl⟩⟩ [(1, 0)] (P := (kJ (kP xs)) ∧ (kG n) ∧ (kG 0) ∧ (kG 0) ∧ (kJ (kP xs)) ∧ (kG n) ∧ (kM (n : Int)) ∧ (kM 0) ∧ (((kP ([] : List Bx)) : List D) = ([] : List D))) zk ⟨rfl, rfl, rfl, rfl, rfl, rfl, rfl, rfl, (by rfl)⟩ ?_
  rintro ⟨⟨i, q, o⟩, hinv0⟩
  obtain ⟨hi, ho, hq⟩ : (i ≤ n ∧ q ≤ i) ∧ (oB xs i = o) ∧ (ka0 o = q) := hinv0
  refine qU (l := [(0, .e (kY xs n)), (4, oV 1 0 q 4), (10, .e (kY xs n)), (11, uV n), (12, uV i)]) (g := [(1, some (63, .ds (kP o)))]) (nx := 2) rfl rfl rfl ?_
  by_cases hx2 : (((i : Nat) : Int) < ((n : Nat) : Int))
  ·refine kH [.b true] (((i : Int) < (n : Int))) [(0, .e (kY xs n)), (4, oV 1 0 q 4), (10, .e (kY xs n)), (11, uV n), (12, uV i), (13, bV true)] [(1, some (63, .ds (kP o)))] 2 zo ?_
   refine AW.seq ?_
   refine vI ?_
   refine AW.seq ?_
   refine AW.block ?_
   obtain ⟨hx3, hx4, hx5, hx6, hx7⟩ := BsW.at (qC : BsW xs) (i)
   refine kH [.no, .n i, .ds (yJ xs i), .no, .no, .no] ((kM (i : Int)) ∧ (i < n) ∧ (ka5 4 (ka3 (i * 4) (kP xs)) = (yJ xs i)) ∧ (((yJ xs i) : List D).length = 4)) [(0, .e (kY xs n)), (4, oV 1 0 q 4), (5, uV i), (6, rV 2 0), (10, .e (kY xs n)), (11, uV n), (12, uV i)] [(1, some (63, .ds (kP o))), (2, some (63, (u0h xs i)))] 3 ⟨rfl, zo, (vH zo), rfl⟩ ?_
   rcases ka9 (goB xs i) with hx8 | hx8
   ·refine kQ [.no, .no, .call [] (bV true) [] 0 [] none, .no] (Fun 61 [.c (.d (D.sl (kP xs) n)), uE i] (kF []) 0 (bV true) (kF []) 0) [(0, .e (kY xs n)), (4, oV 1 0 q 4), (6, rV 2 0), (10, .e (kY xs n)), (11, uV n), (12, uV i), (20, bV false)] (by have h0 := (u03 xs n i zo zo (qC : BsW xs) zo); rw [hx8] at h0; exact h0) ?_
    refine uP ?_
    refine vY [.w, .no] (uZ ((i : Int) + 1)) [(0, .e (kY xs n)), (4, oV 1 0 q 4), (10, .e (kY xs n)), (11, uV n), (12, iV (↑i + 1))] [(1, some (63, .ds (kP o)))] 3 ⟨by omega, by omega⟩ ?_
    exact kV ⟨(((i + 1) : Nat), (q : Nat), (o : List Bx)), ⟨zo, (by exact v3n ho (by assumption)), zo⟩⟩ [] (P := (kJ (kP xs)) ∧ (kG n) ∧ (kG 0) ∧ (kG q) ∧ (kJ (kP xs)) ∧ (kG n) ∧ (kM (n : Int)) ∧ (bU i) ∧ (kJ (kP o))) zk ⟨rfl, rfl, rfl, rfl, rfl, rfl, rfl, (by rfl), rfl⟩ (show n - (i + 1) < n - i from zo)
   ·refine kQ [.no, .no, .call [] (bV false) [] 0 [] none, .no] (Fun 61 [.c (.d (D.sl (kP xs) n)), uE i] (kF []) 0 (bV false) (kF []) 0) [(0, .e (kY xs n)), (4, oV 1 0 q 4), (6, rV 2 0), (10, .e (kY xs n)), (11, uV n), (12, uV i), (20, bV true)] (by have h0 := (u03 xs n i zo zo (qC : BsW xs) zo); rw [hx8] at h0; exact h0) ?_
    refine zt ?_
    refine vY [.no, .no, .call [] (.e ((nL xs i))) [] 0 [] none, .no, .ap none (q + 1) (kP (o ++ ([(kE (kR xs i) (k8 xs i) (kU xs i) (kS xs i) (kZ xs i) (kT xs i))] : List Bx))), .no] ((_) ∧ ((yJ xs i).length = 1 * 4) ∧ (((kP o) : List D).length = q * 4) ∧ ((q + 1) * 80 ≤ 140737488355328) ∧ (q + 1 = (q + 1)) ∧ (((kP o) : List D) ++ (yJ xs i) = (kP (o ++ ([(kE (kR xs i) (k8 xs i) (kU xs i) (kS xs i) (kZ xs i) (kT xs i))] : List Bx))))) [(0, .e (kY xs n)), (4, oV 4 0 (q + 1) 4), (10, .e (kY xs n)), (11, uV n), (12, uV i)] [(4, some (63, .ds (kP (o ++ ([(kE (kR xs i) (k8 xs i) (kU xs i) (kS xs i) (kZ xs i) (kT xs i))] : List Bx)))))] 5 ⟨(u89 (kR xs i) (k8 xs i) (kU xs i) (kS xs i) (ka0 (kS xs i)) (kZ xs i) (kT xs i) zo zo rfl zo zo zo (BsW.ms (qC : BsW xs) _)), aM, aM, zo, zo, (sO o (kR xs i) (k8 xs i) (kU xs i) (kS xs i) (ka0 (kS xs i)) (kZ xs i) (kT xs i) (by rfl))⟩ ?_
    refine u2 [.w, .no] (uZ ((i : Int) + 1)) [(0, .e (kY xs n)), (4, oV 4 0 (q + 1) 4), (10, .e (kY xs n)), (11, uV n), (12, iV (↑i + 1))] ⟨by omega, by omega⟩ ?_
    exact kV ⟨(((i + 1) : Nat), ((q + 1) : Nat), ((o ++ ([(kE (kR xs i) (k8 xs i) (kU xs i) (kS xs i) (kZ xs i) (kT xs i))] : List Bx)) : List Bx)), ⟨zo, (by exact v3o ho (by assumption)), zD⟩⟩ [(1, 4)] (P := (kJ (kP xs)) ∧ (kG n) ∧ (kG 0) ∧ (kG (q + 1)) ∧ (kJ (kP xs)) ∧ (kG n) ∧ (kM (n : Int)) ∧ (bU i) ∧ (kJ (kP (o ++ ([(kE (kR xs i) (k8 xs i) (kU xs i) (kS xs i) (kZ xs i) (kT xs i))] : List Bx))))) zk ⟨rfl, rfl, rfl, rfl, rfl, rfl, rfl, (by rfl), rfl⟩ (show n - (i + 1) < n - i from zo)
  ·refine kH [.b false] (¬ ((i : Int) < (n : Int))) [(0, .e (kY xs n)), (4, oV 1 0 q 4), (10, .e (kY xs n)), (11, uV n), (12, uV i), (13, bV false)] [(1, some (63, .ds (kP o)))] 2 zo ?_
   refine AW.seq ?_
   refine zf ?_
   refine AW.exit ?_
   refine kH [.no, .no, .no] True [(2, oV 1 0 q 4), (3, iV 0)] [(1, some (63, .ds (kP o)))] 2 trivial ?_
   refine AW.freeze 1 (l' := [(2, .e (kY o q)), (3, iV 0)]) (g' := []) rfl (FzS.cons rfl (.e (.c (@FzC.own 1 ((kP o) : List D) 0 q 4 true ((kP o) : List D) pG aM))) (FzS.cons rfl (.same _) FzS.nil)) FzG.nil ?_
   obtain ⟨hz1, hz2⟩ := k58 hx1
   have hz3 : oB xs (ka0 xs) = o := by have h9 := ho; rw [show i = ka0 xs by omega] at h9; exact h9
   refine AW.ret ?_
   exact kA (.inr rfl) [] (P := (((kP (aZ xs)) : List D) = (kP o)) ∧ (((ka0 (aZ xs)) : Nat) = q) ∧ (((iM xs) : Int) = 0)) zk ⟨(by (rw [hz1, hz3]; done)), (by (rw [hz1, hz3]; omega)), (by (rw [hz2]; done))⟩
 ·refine kQ [.no, .call [] (bV false) [] 0 [] none, .no] (Fun 60 [.c (.d (D.sl (kP xs) n))] (kF []) 0 (bV false) (kF []) 0) [(0, .e (kY xs n)), (9, bV true)] (by have h0 := (vV xs n zo zo (qC : BsW xs)); rw [hx1] at h0; exact h0) ?_
  refine zt ?_
  refine kQ [.no, .no] True [(2, nV), (3, iV 1)] trivial ?_
  obtain ⟨hz1, hz2⟩ := u9n hx1
  refine y6 (l' := [(2, qB ([] : List D) 0), (3, iV 1)]) (g' := []) (NlS.cons rfl (.e (.c .nil)) (NlS.cons rfl (.same _) NlS.nil)) NlG.nil ?_
  refine AW.ret ?_
  exact kA (.inr rfl) [] (P := (((kP (aZ xs)) : List D) = ([] : List D)) ∧ (((ka0 (aZ xs)) : Nat) = 0) ∧ (((iM xs) : Int) = 1)) zk ⟨(by (rw [hz1]; rfl)), (by (rw [hz1]; rfl)), (by (rw [hz2]; done))⟩
theorem u2w (l : List Int) (n : Nat) (v : Int) (hl : ka0 l = n * 2) (hb : n ≤ 1000000) (hv : -1 ≤ v ∧ v ≤ 2147483647) : Fun 170 [.agg [.d (D.sl (dI .i64 l) n)], iE v] (kF []) 0 (.e (.agg [.d (D.sl (dI .i64 (dM l v n)) (jY l v n))])) (kF []) 0 := by
 refine Fun.mk (n := 33) Tryz.func170 rfl rfl (ka4 rfl) ?_
 intro cx hcx
 refine kH [.no, .no] True [(1, iV v), (2, rV 0 0), (4, rV 1 0)] [(0, some (60, .ds [dl l n])), (1, some (60, .ds [qJ]))] 2 trivial ?_
 refine kQ [.no] True [(1, iV v), (2, rV 0 0), (4, rV 1 0), (5, nV)] trivial ?_
 refine AW.seq ?_
 refine kH (qD 4 []) True [(1, iV v), (4, rV 1 0), (5, nV), (9, sV .i64 l n), (10, uV n), (11, iV 0)] [(1, some (60, .ds [qJ]))] 2 trivial ?_
 refine AW.block ?_
 refine AW.adoptS 5 2 95 rfl ?_
 refine kX 0 hcx (fun (x : {x : Nat × Nat × List Int // match x with | (k, q, o) => (k ≤ n ∧ q ≤ k) ∧ (dM l v k = o) ∧ (ka0 o = q * 2)}) => match x with | ⟨(k, q, o), _⟩ => (⟨[(1, iV v), (4, rV 1 0), (5, oV 3 0 q 2), (9, sV .i64 l n), (10, uV n), (11, uV k)], [(1, some (60, .ds [qJ])), (3, some (95, .ds (dI .i64 o)))], 4⟩ : ES)) (fun x => match x with | ⟨(k, q, o), _⟩ => n - k) ⟨((0 : Nat), (0 : Nat), (([] : List Int) : List Int)), ⟨zo, rfl, rfl⟩⟩ [(3, 2)] (P := (kM v) ∧ (kG 0) ∧ (kG 0) ∧ (kG 0) ∧ (kJ (dI .i64 l)) ∧ (kG n) ∧ (kM (n : Int)) ∧ (kM 0) ∧ (kJ [qJ]) ∧ (((dI .i64 ([] : List Int)) : List D) = ([] : List D))) zk ⟨rfl, rfl, rfl, rfl, rfl, rfl, rfl, rfl, rfl, (by rfl)⟩ ?_
 rintro ⟨⟨k, q, o⟩, hinv0⟩
 obtain ⟨hk, ho, hq⟩ : (k ≤ n ∧ q ≤ k) ∧ (dM l v k = o) ∧ (ka0 o = q * 2) := hinv0
 refine qU (l := [(1, iV v), (4, rV 1 0), (5, oV 3 0 q 2), (9, sV .i64 l n), (10, uV n), (11, uV k)]) (g := [(1, some (60, .ds [qJ])), (3, some (95, .ds (dI .i64 o)))]) (nx := 4) rfl rfl rfl ?_
 by_cases hx1 : (((k : Nat) : Int) < ((n : Nat) : Int))
 ·refine kH [.b true] (((k : Int) < (n : Int))) [(1, iV v), (4, rV 1 0), (5, oV 3 0 q 2), (9, sV .i64 l n), (10, uV n), (11, uV k), (12, bV true)] [(1, some (60, .ds [qJ])), (3, some (95, .ds (dI .i64 o)))] 4 zo ?_
  refine AW.seq ?_
  refine vI ?_
  refine AW.seq ?_
  refine AW.block ?_
  refine kH [.n k, .ds [iD (ka1 l (k * 2) 0), iD (ka1 l ((k * 2) + 1) 0)], .no, .no] ((kM (k : Int)) ∧ (k < n) ∧ (ka5 2 (ka3 (k * 2) (dI .i64 l)) = [iD (ka1 l (k * 2) 0), iD (ka1 l ((k * 2) + 1) 0)]) ∧ (([iD (ka1 l (k * 2) 0), iD (ka1 l ((k * 2) + 1) 0)] : List D).length = 2)) [(1, iV v), (4, rV 1 0), (5, oV 3 0 q 2), (7, rV 4 0), (9, sV .i64 l n), (10, uV n), (11, uV k)] [(1, some (60, .ds [qJ])), (3, some (95, .ds (dI .i64 o))), (4, some (95, .ds [iD (ka1 l (k * 2) 0), iD (ka1 l ((k * 2) + 1) 0)]))] 5 ⟨rfl, zo, (bJ .i64 l (k * 2) 2 zo), rfl⟩ ?_
  by_cases hx2 : (v < (ka1 l ((k * 2) + 1) 0))
  ·refine kQ [.no, .no, .no, .b true] ((v < (ka1 l ((k * 2) + 1) 0))) [(1, iV v), (4, rV 1 0), (5, oV 3 0 q 2), (7, rV 4 0), (9, sV .i64 l n), (10, uV n), (11, uV k), (18, bV true)] zo ?_
   refine zt ?_
   refine vY (qD 4 (.w :: qD 5 [.ap none (q + 1) (dI .i64 (o ++ ([(max (ka1 l (k * 2) 0) (v + 1)), (ka1 l ((k * 2) + 1) 0)] : List Int))), .no])) ((uZ (v + 1)) ∧ ([iD (max (ka1 l (k * 2) 0) (v + 1)), iD (ka1 l ((k * 2) + 1) 0)].length = 1 * 2) ∧ (((dI .i64 o) : List D).length = q * 2) ∧ ((q + 1) * 16 ≤ 140737488355328) ∧ (q + 1 = (q + 1)) ∧ (((dI .i64 o) : List D) ++ [iD (max (ka1 l (k * 2) 0) (v + 1)), iD (ka1 l ((k * 2) + 1) 0)] = (dI .i64 (o ++ ([(max (ka1 l (k * 2) 0) (v + 1)), (ka1 l ((k * 2) + 1) 0)] : List Int))))) [(1, iV v), (4, rV 1 0), (5, oV 6 0 (q + 1) 2), (9, sV .i64 l n), (10, uV n), (11, uV k)] [(1, some (60, .ds [qJ])), (6, some (95, .ds (dI .i64 (o ++ ([(max (ka1 l (k * 2) 0) (v + 1)), (ka1 l ((k * 2) + 1) 0)] : List Int)))))] 7 ⟨⟨by omega, by omega⟩, aM, aM, zo, zo, (aU .i64 o ([(max (ka1 l (k * 2) 0) (v + 1)), (ka1 l ((k * 2) + 1) 0)] : List Int))⟩ ?_
   refine u2 [.w, .no] (uZ ((k : Int) + 1)) [(1, iV v), (4, rV 1 0), (5, oV 6 0 (q + 1) 2), (9, sV .i64 l n), (10, uV n), (11, iV (↑k + 1))] ⟨by omega, by omega⟩ ?_
   exact kV ⟨(((k + 1) : Nat), ((q + 1) : Nat), ((o ++ ([(max (ka1 l (k * 2) 0) (v + 1)), (ka1 l ((k * 2) + 1) 0)] : List Int)) : List Int)), ⟨zo, (by exact v5q ho zo (by rfl) rfl), zD⟩⟩ [(3, 6)] (P := (kM v) ∧ (kG 0) ∧ (kG 0) ∧ (kG (q + 1)) ∧ (kJ (dI .i64 l)) ∧ (kG n) ∧ (kM (n : Int)) ∧ (bU k) ∧ (kJ [qJ]) ∧ (kJ (dI .i64 (o ++ ([(max (ka1 l (k * 2) 0) (v + 1)), (ka1 l ((k * 2) + 1) 0)] : List Int))))) zk ⟨rfl, rfl, rfl, rfl, rfl, rfl, rfl, (by rfl), rfl, rfl⟩ (show n - (k + 1) < n - k from zo)
  ·refine kQ [.no, .no, .no, .b false] (¬ (v < (ka1 l ((k * 2) + 1) 0))) [(1, iV v), (4, rV 1 0), (5, oV 3 0 q 2), (7, rV 4 0), (9, sV .i64 l n), (10, uV n), (11, uV k), (18, bV false)] zo ?_
   refine uP ?_
   refine vY [.w, .no] (uZ ((k : Int) + 1)) [(1, iV v), (4, rV 1 0), (5, oV 3 0 q 2), (9, sV .i64 l n), (10, uV n), (11, iV (↑k + 1))] [(1, some (60, .ds [qJ])), (3, some (95, .ds (dI .i64 o)))] 5 ⟨by omega, by omega⟩ ?_
   exact kV ⟨(((k + 1) : Nat), (q : Nat), (o : List Int)), ⟨zo, (by exact v5r ho zo), (by assumption)⟩⟩ [] (P := (kM v) ∧ (kG 0) ∧ (kG 0) ∧ (kG q) ∧ (kJ (dI .i64 l)) ∧ (kG n) ∧ (kM (n : Int)) ∧ (bU k) ∧ (kJ [qJ]) ∧ (kJ (dI .i64 o))) zk ⟨rfl, rfl, rfl, rfl, rfl, rfl, rfl, (by rfl), rfl, rfl⟩ (show n - (k + 1) < n - k from zo)
 ·refine kH [.b false] (¬ ((k : Int) < (n : Int))) [(1, iV v), (4, rV 1 0), (5, oV 3 0 q 2), (9, sV .i64 l n), (10, uV n), (11, uV k), (12, bV false)] [(1, some (60, .ds [qJ])), (3, some (95, .ds (dI .i64 o)))] 4 zo ?_
  refine AW.seq ?_
  refine zf ?_
  refine AW.exit ?_
  refine kH [.no, .no, .no] True [(4, rV 1 0)] [(1, some (60, .cs [.own 3 0 q 2 true])), (3, some (95, .ds (dI .i64 o)))] 4 trivial ?_
  refine AW.freeze 3 (l' := [(4, rV 1 0)]) (g' := [(1, some (60, .ds [dl o q]))]) rfl (FzS.cons rfl (.same _) FzS.nil) (FzG.to (bc := .cs [.own 3 0 q 2 true]) rfl (by rfl) (FzL.cons (@FzC.own 3 ((dI .i64 o) : List D) 0 q 2 true ((dI .i64 o) : List D) pG aM) FzL.nil) FzG.nil) ?_
  have hz1 : dM l v n = o := by have h9 := ho; rw [show k = n by omega] at h9; exact h9
  have hz2 : jY l v n = q := by unfold jY; rw [hz1]; omega
  refine AW.ret ?_
  exact kA (.inr rfl) [] (P := (((dI .i64 (dM l v n)) : List D) = (dI .i64 o)) ∧ (((jY l v n) : Nat) = q)) zk ⟨(by (rw [hz1]; done)), (by exact hz2)⟩
theorem jM (a b : List Int) (n m : Nat) (ha : ka0 a = n * 2) (hb : ka0 b = m * 2) (h3 : n ≤ 1000000) (h4 : m ≤ 1000000) : Fun 160 [.agg [.d (D.sl (dI .i64 a) n)], .agg [.d (D.sl (dI .i64 b) m)]] (kF []) 0 (.tup [.agg [.d (D.sl (dI .i64 (uB (kB a n) (kB b m))) (qL (kB a n) (kB b m)))], .c (.d (D.lit (.bool (lH a n b m))))]) (kF []) 0 := by
 refine Fun.mk (n := 30) Tryz.func160 rfl rfl (ka4 rfl) ?_
 intro cx hcx
 refine kH (qD 4 []) True [(2, rV 0 0), (3, rV 1 0), (4, rV 2 0)] [(0, some (60, .ds [dl a n])), (1, some (60, .ds [dl b m])), (2, some (60, .ds [qJ]))] 3 trivial ?_
 have hx1 : ((ka0 (uB (kB a n) (kB b m))) = ((qL (kB a n) (kB b m)) * 2)) := uS _ _
 have hx2 : ((qL (kB a n) (kB b m)) ≤ 64) := v7 _ _
 refine kH [.no, .no, .call [] (.e (.agg [.d (dl (uB (kB a n) (kB b m)) (qL (kB a n) (kB b m)))])) [] 0 [] none, .no, .no] _ [(2, rV 0 0), (3, rV 1 0), (4, rV 2 0), (6, rV 3 0)] [(0, some (60, .ds [dl a n])), (1, some (60, .ds [dl b m])), (2, some (60, .ds [qJ])), (3, some (60, .ds [dl (uB (kB a n) (kB b m)) (qL (kB a n) (kB b m))]))] 4 (fQ a b n m zo zo zo zo) ?_
 refine AW.seq ?_
 by_cases hx3 : ((((qL (kB a n) (kB b m)) : Nat) : Int) < 64)
 ·refine kQ [.no, .no, .no, .b true] (((qL (kB a n) (kB b m) : Int) < 64)) [(2, rV 0 0), (3, rV 1 0), (4, rV 2 0), (6, rV 3 0), (14, bV true)] zo ?_
  refine zt ?_
  refine kH [.no, .no, .no] True [(4, rV 2 0), (5, bV true)] [(2, some (60, .ds [dl (uB (kB a n) (kB b m)) (qL (kB a n) (kB b m))]))] 4 trivial ?_
  refine AW.ret ?_
  exact kA (.inr rfl) [] (P := (kJ (dI .i64 (uB (kB a n) (kB b m)))) ∧ (kG (qL (kB a n) (kB b m))) ∧ ((lH a n b m) = true)) zk ⟨rfl, rfl, (by exact u6m zo)⟩
 ·refine kQ [.no, .no, .no, .b false] (¬ ((qL (kB a n) (kB b m) : Int) < 64)) [(2, rV 0 0), (3, rV 1 0), (4, rV 2 0), (6, rV 3 0), (14, bV false)] zo ?_
  refine uP ?_
  have hx4 : 0 ≤ ka1 (uB (kB a n) (kB b m)) 127 0 ∧ ka1 (uB (kB a n) (kB b m)) 127 0 ≤ 2147483647 := v13 ha hb zo
  have hx5 : ((ka0 (dM a (ka1 (uB (kB a n) (kB b m)) 127 0) n)) = ((jY a (ka1 (uB (kB a n) (kB b m)) 127 0) n) * 2)) := (sU a (ka1 (uB (kB a n) (kB b m)) 127 0) n).1
  have hx6 : ((jY a (ka1 (uB (kB a n) (kB b m)) 127 0) n) ≤ n) := (sU a (ka1 (uB (kB a n) (kB b m)) 127 0) n).2
  have hx7 : ((ka0 (uB (kB (dM a (ka1 (uB (kB a n) (kB b m)) 127 0) n) (jY a (ka1 (uB (kB a n) (kB b m)) 127 0) n)) (kB b m))) = ((qL (kB (dM a (ka1 (uB (kB a n) (kB b m)) 127 0) n) (jY a (ka1 (uB (kB a n) (kB b m)) 127 0) n)) (kB b m)) * 2)) := uS _ _
  have hx8 : ((qL (kB (dM a (ka1 (uB (kB a n) (kB b m)) 127 0) n) (jY a (ka1 (uB (kB a n) (kB b m)) 127 0) n)) (kB b m)) ≤ 64) := v7 _ _
  refine kH [.no, .no, .no, .n 63, .no, .d (D.lit (.int .i64 (ka1 (uB (kB a n) (kB b m)) 127 0))), .call [] (.e (.agg [.d (dl (dM a (ka1 (uB (kB a n) (kB b m)) 127 0) n) (jY a (ka1 (uB (kB a n) (kB b m)) 127 0) n))])) [] 0 [] none, .no, .call [] (.e (.agg [.d (dl (uB (kB (dM a (ka1 (uB (kB a n) (kB b m)) 127 0) n) (jY a (ka1 (uB (kB a n) (kB b m)) 127 0) n)) (kB b m)) (qL (kB (dM a (ka1 (uB (kB a n) (kB b m)) 127 0) n) (jY a (ka1 (uB (kB a n) (kB b m)) 127 0) n)) (kB b m)))])) [] 0 [] none, .no, .no] ((kM 63) ∧ ((63 : Nat) < (qL (kB a n) (kB b m))) ∧ ((ka3 1 (ka3 126 (dI .i64 (uB (kB a n) (kB b m)))))[0]? = some (D.lit (.int .i64 (ka1 (uB (kB a n) (kB b m)) 127 0)))) ∧ (_) ∧ (_)) [(4, rV 2 0), (6, rV 3 0), (7, rV 4 0)] [(2, some (60, .ds [qJ])), (3, some (60, .ds [dl (uB (kB a n) (kB b m)) (qL (kB a n) (kB b m))])), (4, some (60, .ds [dl (uB (kB (dM a (ka1 (uB (kB a n) (kB b m)) 127 0) n) (jY a (ka1 (uB (kB a n) (kB b m)) 127 0) n)) (kB b m)) (qL (kB (dM a (ka1 (uB (kB a n) (kB b m)) 127 0) n) (jY a (ka1 (uB (kB a n) (kB b m)) 127 0) n)) (kB b m))]))] 5 ⟨rfl, zo, (by (rw [List.drop_drop]; exact yG _ _ _ zo)), (u2w a n (ka1 (uB (kB a n) (kB b m)) 127 0) zo zo zo), (fQ (dM a (ka1 (uB (kB a n) (kB b m)) 127 0) n) b (jY a (ka1 (uB (kB a n) (kB b m)) 127 0) n) m zo zo zo zo)⟩ ?_
  by_cases hx9 : ((((qL (kB (dM a (ka1 (uB (kB a n) (kB b m)) 127 0) n) (jY a (ka1 (uB (kB a n) (kB b m)) 127 0) n)) (kB b m)) : Nat) : Int) = 0)
  ·refine kH (qD 4 [.b true, .no, .no]) (((((qL (kB (dM a (ka1 (uB (kB a n) (kB b m)) 127 0) n) (jY a (ka1 (uB (kB a n) (kB b m)) 127 0) n)) (kB b m)) : Nat) : Int) = 0)) [(4, rV 2 0), (5, bV true)] [(2, some (60, .ds [dl (uB (kB a n) (kB b m)) (qL (kB a n) (kB b m))]))] 5 zo ?_
   refine AW.ret ?_
   exact kA (.inr rfl) [] (P := (kJ (dI .i64 (uB (kB a n) (kB b m)))) ∧ (kG (qL (kB a n) (kB b m))) ∧ ((lH a n b m) = true)) zk ⟨rfl, rfl, (by exact v4h zo)⟩
  ·refine kH (qD 4 [.b false, .no, .no]) (¬ ((((qL (kB (dM a (ka1 (uB (kB a n) (kB b m)) 127 0) n) (jY a (ka1 (uB (kB a n) (kB b m)) 127 0) n)) (kB b m)) : Nat) : Int) = 0)) [(4, rV 2 0), (5, bV false)] [(2, some (60, .ds [dl (uB (kB a n) (kB b m)) (qL (kB a n) (kB b m))]))] 5 zo ?_
   refine AW.ret ?_
   exact kA (.inr rfl) [] (P := (kJ (dI .i64 (uB (kB a n) (kB b m)))) ∧ (kG (qL (kB a n) (kB b m))) ∧ ((lH a n b m) = false)) zk ⟨rfl, rfl, (by exact v4i zo zo)⟩
abbrev dO : BC := .ds [iD 0, D.lit (.slice none 0 0), D.lit (.slice none 0 0), D.lit (.slice none 0 0)]
abbrev j9 (k : Int) (k2 : Int) (r : List Int) (rn : Nat) (r2 : List Int) (rn2 : Nat) (m : List (List Int)) (m2 : List (List Int)) (c : Nat) (s : List Int) (sn : Nat) (s2 : List Int) (sn2 : Nat) : BC := .ds [iD (qG k k2), D.sl (dI .i64 (uB (kB r rn) (kB r2 rn2))) (qL (kB r rn) (kB r2 rn2)), D.sl (kI (uT m m2 c)) (ka0 (uT m m2 c)), D.sl (dI .i64 (uB (kB s sn) (kB s2 sn2))) (qL (kB s sn) (kB s2 sn2))]
abbrev e8 (r : List Int) (rn : Nat) (r2 : List Int) (rn2 : Nat) : BC := .ds [D.sl (dI .i64 (uB (kB r rn) (kB r2 rn2))) (qL (kB r rn) (kB r2 rn2))]
theorem k2q (k : Int) (r : List Int) (rn : Nat) (m : List (List Int)) (c : Nat) (s : List Int) (sn : Nat) (k2 : Int) (r2 : List Int) (rn2 : Nat) (m2 : List (List Int)) (c2 : Nat) (s2 : List Int) (sn2 : Nat) (hr : ka0 r = rn * 2) (hs : ka0 s = sn * 2) (hc : ka0 m = c) (h1 : rn ≤ 1000000) (h2 : sn ≤ 1000000) (h3 : c ≤ 1000000) (hW : MsW m) (hr2 : ka0 r2 = rn2 * 2) (hs2 : ka0 s2 = sn2 * 2) (hc2 : ka0 m2 = c2) (h12 : rn2 ≤ 1000000) (h22 : sn2 ≤ 1000000) (h32 : c2 ≤ 1000000) (hW2 : MsW m2) : Fun 134 [.agg [iC k, .d (D.sl (dI .i64 r) rn), .d (D.sl (kI m) c), .d (D.sl (dI .i64 s) sn)], .agg [iC k2, .d (D.sl (dI .i64 r2) rn2), .d (D.sl (kI m2) c2), .d (D.sl (dI .i64 s2) sn2)]] (kF []) 0 (.tup [.agg [iC (qG k k2), .d (D.sl (dI .i64 (uB (kB r rn) (kB r2 rn2))) (qL (kB r rn) (kB r2 rn2))), .d (D.sl (kI (uT m m2 c)) (ka0 (uT m m2 c))), .d (D.sl (dI .i64 (uB (kB s sn) (kB s2 sn2))) (qL (kB s sn) (kB s2 sn2)))], .c (.d (D.lit (.bool (xsB r rn r2 rn2 s sn s2 sn2))))]) (kF []) 0 := by
 refine Fun.mk (n := 43) Tryz.func134 rfl rfl (ka4 rfl) ?_
 intro cx hcx
 refine kH (qD 4 []) True [(2, rV 0 0), (3, rV 1 0), (4, rV 2 0)] [(0, some (63, .ds [iD k, dl r rn, D.sl (kI m) c, dl s sn])), (1, some (63, .ds [iD k2, dl r2 rn2, D.sl (kI m2) c2, dl s2 sn2])), (2, some (63, dO))] 3 trivial ?_
 rcases ka9 (lH r rn r2 rn2) with hx1 | hx1
 ·have hx2 : ((ka0 (uB (kB r rn) (kB r2 rn2))) = ((qL (kB r rn) (kB r2 rn2)) * 2)) := uS _ _
  have hx3 : ((qL (kB r rn) (kB r2 rn2)) ≤ 64) := v7 _ _
  refine kH (qD 4 (.call [] (.tup [.agg [.d (dl (uB (kB r rn) (kB r2 rn2)) (qL (kB r rn) (kB r2 rn2)))], .c (.d (D.lit (.bool true)))]) [] 0 [] none :: qD 6 [])) (Fun 160 [.agg [.d (dl r rn)], .agg [.d (dl r2 rn2)]] (kF []) 0 (.tup [.agg [.d (dl (uB (kB r rn) (kB r2 rn2)) (qL (kB r rn) (kB r2 rn2)))], .c (.d (D.lit (.bool true)))]) (kF []) 0) [(2, rV 0 0), (3, rV 1 0), (4, rV 2 0), (6, rV 3 0), (7, bV true)] [(0, some (63, .ds [iD k, dl r rn, D.sl (kI m) c, dl s sn])), (1, some (63, .ds [iD k2, dl r2 rn2, D.sl (kI m2) c2, dl s2 sn2])), (2, some (63, dO)), (3, some (60, (e8 r rn r2 rn2)))] 4 (by have h0 := (jM r r2 rn rn2 zo zo zo zo); rw [hx1] at h0; exact h0) ?_
  rcases ka9 (lH s sn s2 sn2) with hx4 | hx4
  ·have hx5 : ((ka0 (uB (kB s sn) (kB s2 sn2))) = ((qL (kB s sn) (kB s2 sn2)) * 2)) := uS _ _
   have hx6 : ((qL (kB s sn) (kB s2 sn2)) ≤ 64) := v7 _ _
   refine kH (qD 4 (.call [] (.tup [.agg [.d (dl (uB (kB s sn) (kB s2 sn2)) (qL (kB s sn) (kB s2 sn2)))], .c (.d (D.lit (.bool true)))]) [] 0 [] none :: qD 6 [])) (Fun 160 [.agg [.d (dl s sn)], .agg [.d (dl s2 sn2)]] (kF []) 0 (.tup [.agg [.d (dl (uB (kB s sn) (kB s2 sn2)) (qL (kB s sn) (kB s2 sn2)))], .c (.d (D.lit (.bool true)))]) (kF []) 0) [(2, rV 0 0), (3, rV 1 0), (4, rV 2 0), (6, rV 3 0), (7, bV true), (8, rV 4 0), (9, bV true)] [(0, some (63, .ds [iD k, dl r rn, D.sl (kI m) c, dl s sn])), (1, some (63, .ds [iD k2, dl r2 rn2, D.sl (kI m2) c2, dl s2 sn2])), (2, some (63, dO)), (3, some (60, (e8 r rn r2 rn2))), (4, some (60, .ds [dl (uB (kB s sn) (kB s2 sn2)) (qL (kB s sn) (kB s2 sn2))]))] 5 (by have h0 := (jM s s2 sn sn2 zo zo zo zo); rw [hx4] at h0; exact h0) ?_
   have hx7 : ((ka0 (uT m m2 c)) ≤ c) := cC m m2 c
   refine kH (qD 4 (.i (qG k k2) :: qD 5 (.call [] (qB (kI (uT m m2 c)) (ka0 (uT m m2 c))) [] 0 [] none :: qD 8 []))) ((qE .and .i64 k k2 = (qG k k2)) ∧ (_)) [(4, rV 2 0), (5, bV true)] [(2, some (63, (j9 k k2 r rn r2 rn2 m m2 c s sn s2 sn2)))] 5 ⟨rfl, (k46 m m2 c c2 zo zo zo zo (qC : MsW m) (qC : MsW m2))⟩ ?_
   refine AW.ret ?_
   exact kA (.inr rfl) [] (P := (kM (qG k k2)) ∧ (kJ (dI .i64 (uB (kB r rn) (kB r2 rn2)))) ∧ (kG (qL (kB r rn) (kB r2 rn2))) ∧ (kJ (kI (uT m m2 c))) ∧ (kG (ka0 (uT m m2 c))) ∧ (kJ (dI .i64 (uB (kB s sn) (kB s2 sn2)))) ∧ (kG (qL (kB s sn) (kB s2 sn2))) ∧ ((xsB r rn r2 rn2 s sn s2 sn2) = true)) zk ⟨rfl, rfl, rfl, rfl, rfl, rfl, rfl, (by exact u5o (by assumption) (by assumption))⟩
  ·have hx8 : ((ka0 (uB (kB s sn) (kB s2 sn2))) = ((qL (kB s sn) (kB s2 sn2)) * 2)) := uS _ _
   have hx9 : ((qL (kB s sn) (kB s2 sn2)) ≤ 64) := v7 _ _
   refine kH (qD 4 (.call [] (.tup [.agg [.d (dl (uB (kB s sn) (kB s2 sn2)) (qL (kB s sn) (kB s2 sn2)))], .c (.d (D.lit (.bool false)))]) [] 0 [] none :: qD 6 [])) (Fun 160 [.agg [.d (dl s sn)], .agg [.d (dl s2 sn2)]] (kF []) 0 (.tup [.agg [.d (dl (uB (kB s sn) (kB s2 sn2)) (qL (kB s sn) (kB s2 sn2)))], .c (.d (D.lit (.bool false)))]) (kF []) 0) [(2, rV 0 0), (3, rV 1 0), (4, rV 2 0), (6, rV 3 0), (7, bV true), (8, rV 4 0), (9, bV false)] [(0, some (63, .ds [iD k, dl r rn, D.sl (kI m) c, dl s sn])), (1, some (63, .ds [iD k2, dl r2 rn2, D.sl (kI m2) c2, dl s2 sn2])), (2, some (63, dO)), (3, some (60, (e8 r rn r2 rn2))), (4, some (60, .ds [dl (uB (kB s sn) (kB s2 sn2)) (qL (kB s sn) (kB s2 sn2))]))] 5 (by have h0 := (jM s s2 sn sn2 zo zo zo zo); rw [hx4] at h0; exact h0) ?_
   have hx10 : ((ka0 (uT m m2 c)) ≤ c) := cC m m2 c
   refine kH (qD 4 (.i (qG k k2) :: qD 5 (.call [] (qB (kI (uT m m2 c)) (ka0 (uT m m2 c))) [] 0 [] none :: qD 8 []))) ((qE .and .i64 k k2 = (qG k k2)) ∧ (_)) [(4, rV 2 0), (5, bV false)] [(2, some (63, (j9 k k2 r rn r2 rn2 m m2 c s sn s2 sn2)))] 5 ⟨rfl, (k46 m m2 c c2 zo zo zo zo (qC : MsW m) (qC : MsW m2))⟩ ?_
   refine AW.ret ?_
   exact kA (.inr rfl) [] (P := (kM (qG k k2)) ∧ (kJ (dI .i64 (uB (kB r rn) (kB r2 rn2)))) ∧ (kG (qL (kB r rn) (kB r2 rn2))) ∧ (kJ (kI (uT m m2 c))) ∧ (kG (ka0 (uT m m2 c))) ∧ (kJ (dI .i64 (uB (kB s sn) (kB s2 sn2)))) ∧ (kG (qL (kB s sn) (kB s2 sn2))) ∧ ((xsB r rn r2 rn2 s sn s2 sn2) = false)) zk ⟨rfl, rfl, rfl, rfl, rfl, rfl, rfl, (by exact v31 (by assumption))⟩
 ·have hx11 : ((ka0 (uB (kB r rn) (kB r2 rn2))) = ((qL (kB r rn) (kB r2 rn2)) * 2)) := uS _ _
  have hx12 : ((qL (kB r rn) (kB r2 rn2)) ≤ 64) := v7 _ _
  refine kH (qD 4 (.call [] (.tup [.agg [.d (dl (uB (kB r rn) (kB r2 rn2)) (qL (kB r rn) (kB r2 rn2)))], .c (.d (D.lit (.bool false)))]) [] 0 [] none :: qD 6 [])) (Fun 160 [.agg [.d (dl r rn)], .agg [.d (dl r2 rn2)]] (kF []) 0 (.tup [.agg [.d (dl (uB (kB r rn) (kB r2 rn2)) (qL (kB r rn) (kB r2 rn2)))], .c (.d (D.lit (.bool false)))]) (kF []) 0) [(2, rV 0 0), (3, rV 1 0), (4, rV 2 0), (6, rV 3 0), (7, bV false)] [(0, some (63, .ds [iD k, dl r rn, D.sl (kI m) c, dl s sn])), (1, some (63, .ds [iD k2, dl r2 rn2, D.sl (kI m2) c2, dl s2 sn2])), (2, some (63, dO)), (3, some (60, (e8 r rn r2 rn2)))] 4 (by have h0 := (jM r r2 rn rn2 zo zo zo zo); rw [hx1] at h0; exact h0) ?_
  rcases ka9 (lH s sn s2 sn2) with hx13 | hx13
  ·have hx14 : ((ka0 (uB (kB s sn) (kB s2 sn2))) = ((qL (kB s sn) (kB s2 sn2)) * 2)) := uS _ _
   have hx15 : ((qL (kB s sn) (kB s2 sn2)) ≤ 64) := v7 _ _
   refine kH (qD 4 (.call [] (.tup [.agg [.d (dl (uB (kB s sn) (kB s2 sn2)) (qL (kB s sn) (kB s2 sn2)))], .c (.d (D.lit (.bool true)))]) [] 0 [] none :: qD 6 [])) (Fun 160 [.agg [.d (dl s sn)], .agg [.d (dl s2 sn2)]] (kF []) 0 (.tup [.agg [.d (dl (uB (kB s sn) (kB s2 sn2)) (qL (kB s sn) (kB s2 sn2)))], .c (.d (D.lit (.bool true)))]) (kF []) 0) [(2, rV 0 0), (3, rV 1 0), (4, rV 2 0), (6, rV 3 0), (7, bV false), (8, rV 4 0), (9, bV true)] [(0, some (63, .ds [iD k, dl r rn, D.sl (kI m) c, dl s sn])), (1, some (63, .ds [iD k2, dl r2 rn2, D.sl (kI m2) c2, dl s2 sn2])), (2, some (63, dO)), (3, some (60, (e8 r rn r2 rn2))), (4, some (60, .ds [dl (uB (kB s sn) (kB s2 sn2)) (qL (kB s sn) (kB s2 sn2))]))] 5 (by have h0 := (jM s s2 sn sn2 zo zo zo zo); rw [hx13] at h0; exact h0) ?_
   have hx16 : ((ka0 (uT m m2 c)) ≤ c) := cC m m2 c
   refine kH (qD 4 (.i (qG k k2) :: qD 5 (.call [] (qB (kI (uT m m2 c)) (ka0 (uT m m2 c))) [] 0 [] none :: qD 7 []))) ((qE .and .i64 k k2 = (qG k k2)) ∧ (_)) [(4, rV 2 0), (5, bV false)] [(2, some (63, (j9 k k2 r rn r2 rn2 m m2 c s sn s2 sn2)))] 5 ⟨rfl, (k46 m m2 c c2 zo zo zo zo (qC : MsW m) (qC : MsW m2))⟩ ?_
   refine AW.ret ?_
   exact kA (.inr rfl) [] (P := (kM (qG k k2)) ∧ (kJ (dI .i64 (uB (kB r rn) (kB r2 rn2)))) ∧ (kG (qL (kB r rn) (kB r2 rn2))) ∧ (kJ (kI (uT m m2 c))) ∧ (kG (ka0 (uT m m2 c))) ∧ (kJ (dI .i64 (uB (kB s sn) (kB s2 sn2)))) ∧ (kG (qL (kB s sn) (kB s2 sn2))) ∧ ((xsB r rn r2 rn2 s sn s2 sn2) = false)) zk ⟨rfl, rfl, rfl, rfl, rfl, rfl, rfl, (by exact u8o (by assumption))⟩
  ·have hx17 : ((ka0 (uB (kB s sn) (kB s2 sn2))) = ((qL (kB s sn) (kB s2 sn2)) * 2)) := uS _ _
   have hx18 : ((qL (kB s sn) (kB s2 sn2)) ≤ 64) := v7 _ _
   refine kH (qD 4 (.call [] (.tup [.agg [.d (dl (uB (kB s sn) (kB s2 sn2)) (qL (kB s sn) (kB s2 sn2)))], .c (.d (D.lit (.bool false)))]) [] 0 [] none :: qD 6 [])) (Fun 160 [.agg [.d (dl s sn)], .agg [.d (dl s2 sn2)]] (kF []) 0 (.tup [.agg [.d (dl (uB (kB s sn) (kB s2 sn2)) (qL (kB s sn) (kB s2 sn2)))], .c (.d (D.lit (.bool false)))]) (kF []) 0) [(2, rV 0 0), (3, rV 1 0), (4, rV 2 0), (6, rV 3 0), (7, bV false), (8, rV 4 0), (9, bV false)] [(0, some (63, .ds [iD k, dl r rn, D.sl (kI m) c, dl s sn])), (1, some (63, .ds [iD k2, dl r2 rn2, D.sl (kI m2) c2, dl s2 sn2])), (2, some (63, dO)), (3, some (60, (e8 r rn r2 rn2))), (4, some (60, .ds [dl (uB (kB s sn) (kB s2 sn2)) (qL (kB s sn) (kB s2 sn2))]))] 5 (by have h0 := (jM s s2 sn sn2 zo zo zo zo); rw [hx13] at h0; exact h0) ?_
   have hx19 : ((ka0 (uT m m2 c)) ≤ c) := cC m m2 c
   refine kH (qD 4 (.i (qG k k2) :: qD 5 (.call [] (qB (kI (uT m m2 c)) (ka0 (uT m m2 c))) [] 0 [] none :: qD 7 []))) ((qE .and .i64 k k2 = (qG k k2)) ∧ (_)) [(4, rV 2 0), (5, bV false)] [(2, some (63, (j9 k k2 r rn r2 rn2 m m2 c s sn s2 sn2)))] 5 ⟨rfl, (k46 m m2 c c2 zo zo zo zo (qC : MsW m) (qC : MsW m2))⟩ ?_
   refine AW.ret ?_
   exact kA (.inr rfl) [] (P := (kM (qG k k2)) ∧ (kJ (dI .i64 (uB (kB r rn) (kB r2 rn2)))) ∧ (kG (qL (kB r rn) (kB r2 rn2))) ∧ (kJ (kI (uT m m2 c))) ∧ (kG (ka0 (uT m m2 c))) ∧ (kJ (dI .i64 (uB (kB s sn) (kB s2 sn2)))) ∧ (kG (qL (kB s sn) (kB s2 sn2))) ∧ ((xsB r rn r2 rn2 s sn s2 sn2) = false)) zk ⟨rfl, rfl, rfl, rfl, rfl, rfl, rfl, (by exact u8o (by assumption))⟩
abbrev uW (a : List Bx) (i : Nat) (b : List Bx) (j : Nat) := uB (kB (k8 a i) (kU a i)) (kB (k8 b j) (kU b j))
abbrev uO (a : List Bx) (i : Nat) (b : List Bx) (j : Nat) := qL (kB (k8 a i) (kU a i)) (kB (k8 b j) (kU b j))
abbrev qK (a : List Bx) (i : Nat) (b : List Bx) (j : Nat) := uT (kS a i) (kS b j) (ka0 (kS a i))
abbrev uU (a : List Bx) (i : Nat) (b : List Bx) (j : Nat) := uB (kB (kZ a i) (kT a i)) (kB (kZ b j) (kT b j))
abbrev uN (a : List Bx) (i : Nat) (b : List Bx) (j : Nat) := qL (kB (kZ a i) (kT a i)) (kB (kZ b j) (kT b j))
abbrev gP (a : List Bx) (i : Nat) (b : List Bx) (j : Nat) := kE (qG (kR a i) (kR b j)) (uW a i b j) (uO a i b j) (qK a i b j) (uU a i b j) (uN a i b j)
abbrev aO (a : List Bx) (i : Nat) : BC := .ds [iD (kR a i), D.sl (dI .i64 (k8 a i)) (kU a i), D.sl (kI (kS a i)) (ka0 (kS a i)), D.sl (dI .i64 (kZ a i)) (kT a i)]
abbrev k0w (a : List Bx) (i : Nat) (b : List Bx) (j : Nat) : BC := .ds [iD (qG (kR a i) (kR b j)), D.sl (dI .i64 (uW a i b j)) (uO a i b j), D.sl (kI (qK a i b j)) (ka0 (qK a i b j)), D.sl (dI .i64 (uU a i b j)) (uN a i b j)]
theorem v2l (a b : List Bx) (n m : Nat) (hn : ka0 a = n) (hm : ka0 b = m) (h1 : n ≤ 1000) (h2 : m ≤ 1000) (hW : BsW a) (hV : BsW b) : Fun 97 [.c (.d (D.sl (kP a) n)), .c (.d (D.sl (kP b) m))] (kF []) 0 (.tup [.c (.d (D.sl (kP (yE a b)) (ka0 (yE a b)))), iE (eE a b)]) (kF []) 0 := by
 refine Fun.mk (n := 59) Tryz.func97 rfl rfl (ka4 rfl) ?_
 intro cx hcx
 refine kH [.no, .no] True [(0, .e (kY a n)), (1, .e (kY b m))] [] 0 trivial ?_
 refine AW.seq ?_
 rcases ka9 (bY a) with hx1 | hx1
 ·rcases ka9 (bY b) with hx2 | hx2
  ·refine kQ [.no, .call [] (bV true) [] 0 [] none, .no, .no, .no, .call [] (bV true) [] 0 [] none, .no, .no] ((Fun 60 [.c (.d (D.sl (kP a) n))] (kF []) 0 (bV true) (kF []) 0) ∧ (Fun 60 [.c (.d (D.sl (kP b) m))] (kF []) 0 (bV true) (kF []) 0)) [(0, .e (kY a n)), (1, .e (kY b m)), (20, bV false)] ⟨(by have h0 := (vV a n zo zo (qC : BsW a)); rw [hx1] at h0; exact h0), (by have h0 := (vV b m zo zo (qC : BsW b)); rw [hx2] at h0; exact h0)⟩ ?_
   refine uP ?_
   refine kQ [.no] True [(0, .e (kY a n)), (1, .e (kY b m)), (6, nV)] trivial ?_
   refine AW.seq ?_
   refine kQ [.no, .no, .no] True [(1, .e (kY b m)), (6, nV), (21, .e (kY a n)), (22, uV n), (23, iV 0)] trivial ?_
   refine AW.block ?_
   refine AW.adoptS 6 4 63 rfl ?_
   refine kX 0 hcx (fun (x : {x : Nat × Nat × List Bx // match x with | (i, q, o) => (i ≤ n) ∧ (CI a b i o) ∧ (ka0 o = q ∧ q ≤ 64) ∧ (BsW o)}) => match x with | ⟨(i, q, o), _⟩ => (⟨[(1, .e (kY b m)), (6, oV 1 0 q 4), (21, .e (kY a n)), (22, uV n), (23, uV i)], [(1, some (63, .ds (kP o)))], 2⟩ : ES)) (fun x => match x with | ⟨(i, q, o), _⟩ => n - i) ⟨((0 : Nat), (0 : Nat), (([] : List Bx) : List Bx)), ⟨zo, CI.zero a b, ⟨rfl, by omega⟩, BsW.nil⟩⟩ [(1, 0)] (P := (kJ (kP b)) ∧ (kG m) ∧ (kG 0) ∧ (kG 0) ∧ (kJ (kP a)) ∧ (kG n) ∧ (kM (n : Int)) ∧ (kM 0) ∧ (((kP ([] : List Bx)) : List D) = ([] : List D))) zk ⟨rfl, rfl, rfl, rfl, rfl, rfl, rfl, rfl, (by rfl)⟩ ?_
   rintro ⟨⟨i, q, o⟩, hinv0⟩
   obtain ⟨hi, hI, hq, hO⟩ : (i ≤ n) ∧ (CI a b i o) ∧ (ka0 o = q ∧ q ≤ 64) ∧ (BsW o) := hinv0
   refine qU (l := [(1, .e (kY b m)), (6, oV 1 0 q 4), (21, .e (kY a n)), (22, uV n), (23, uV i)]) (g := [(1, some (63, .ds (kP o)))]) (nx := 2) rfl rfl rfl ?_
   by_cases hx3 : (((i : Nat) : Int) < ((n : Nat) : Int))
   ·refine kH [.b true] (((i : Int) < (n : Int))) [(1, .e (kY b m)), (6, oV 1 0 q 4), (21, .e (kY a n)), (22, uV n), (23, uV i), (24, bV true)] [(1, some (63, .ds (kP o)))] 2 zo ?_
    refine AW.seq ?_
    refine vI ?_
    refine AW.seq ?_
    refine AW.block ?_
    obtain ⟨hx4, hx5, hx6, hx7, hx8⟩ := BsW.at (qC : BsW a) (i)
    refine kH [.n i, .ds (yJ a i), .no, .no] ((kM (i : Int)) ∧ (i < n) ∧ (ka5 4 (ka3 (i * 4) (kP a)) = (yJ a i)) ∧ (((yJ a i) : List D).length = 4)) [(1, .e (kY b m)), (6, oV 1 0 q 4), (8, rV 2 0), (21, .e (kY a n)), (22, uV n), (23, uV i)] [(1, some (63, .ds (kP o))), (2, some (63, (aO a i)))] 3 ⟨rfl, zo, (vH zo), rfl⟩ ?_
    refine kQ [.no, .no, .no] True [(1, .e (kY b m)), (6, oV 1 0 q 4), (8, rV 2 0), (21, .e (kY a n)), (22, uV n), (23, uV i), (27, .e (kY b m)), (28, uV m), (29, iV 0)] trivial ?_
    refine AW.block ?_
    refine kX 0 hcx (fun (x : {x : Nat × Nat × List Bx // match x with | (j, p, x) => (j ≤ m) ∧ (CJ2 a b i j x) ∧ (ka0 x = p ∧ p ≤ 64) ∧ (BsW x)}) => match x with | ⟨(j, p, x), _⟩ => (⟨[(1, .e (kY b m)), (6, oV 3 0 p 4), (8, rV 2 0), (21, .e (kY a n)), (22, uV n), (23, uV i), (27, .e (kY b m)), (28, uV m), (29, uV j)], [(3, some (63, .ds (kP x))), (2, some (63, (aO a i)))], 4⟩ : ES)) (fun x => match x with | ⟨(j, p, x), _⟩ => m - j) ⟨((0 : Nat), (q : Nat), (o : List Bx)), ⟨zo, hI.in, (by assumption), hO⟩⟩ [(3, 1)] (P := (kJ (kP b)) ∧ (kG m) ∧ (kG 0) ∧ (kG q) ∧ (kG 0) ∧ (kJ (kP a)) ∧ (kG n) ∧ (kM (n : Int)) ∧ (kM (i : Int)) ∧ (kJ (kP b)) ∧ (kG m) ∧ (kM (m : Int)) ∧ (kM 0) ∧ (kJ (kP o)) ∧ (kJ (yJ a i))) zk ⟨rfl, rfl, rfl, rfl, rfl, rfl, rfl, rfl, rfl, rfl, rfl, rfl, rfl, rfl, rfl⟩ ?_
    rintro ⟨⟨j, p, x⟩, hinv1⟩
    obtain ⟨hj, hJ, hp, hX⟩ : (j ≤ m) ∧ (CJ2 a b i j x) ∧ (ka0 x = p ∧ p ≤ 64) ∧ (BsW x) := hinv1
    refine qU (l := [(1, .e (kY b m)), (6, oV 3 0 p 4), (8, rV 2 0), (21, .e (kY a n)), (22, uV n), (23, uV i), (27, .e (kY b m)), (28, uV m), (29, uV j)]) (g := [(3, some (63, .ds (kP x))), (2, some (63, (aO a i)))]) (nx := 4) rfl rfl rfl ?_
    by_cases hx9 : (((j : Nat) : Int) < ((m : Nat) : Int))
    ·refine kH [.b true] (((j : Int) < (m : Int))) [(1, .e (kY b m)), (6, oV 3 0 p 4), (8, rV 2 0), (21, .e (kY a n)), (22, uV n), (23, uV i), (27, .e (kY b m)), (28, uV m), (29, uV j), (30, bV true)] [(2, some (63, (aO a i))), (3, some (63, .ds (kP x)))] 4 zo ?_
     refine AW.seq ?_
     refine vI ?_
     refine AW.seq ?_
     refine AW.block ?_
     obtain ⟨hx10, hx11, hx12, hx13, hx14⟩ := BsW.at (qC : BsW b) (j)
     refine kH [.n j, .ds (yJ b j), .no, .no] ((kM (j : Int)) ∧ (j < m) ∧ (ka5 4 (ka3 (j * 4) (kP b)) = (yJ b j)) ∧ (((yJ b j) : List D).length = 4)) [(1, .e (kY b m)), (6, oV 3 0 p 4), (8, rV 2 0), (10, rV 4 0), (21, .e (kY a n)), (22, uV n), (23, uV i), (27, .e (kY b m)), (28, uV m), (29, uV j)] [(2, some (63, (aO a i))), (3, some (63, .ds (kP x))), (4, some (63, .ds (yJ b j)))] 5 ⟨rfl, zo, (vH zo), rfl⟩ ?_
     rcases ka9 (xsB (k8 a i) (kU a i) (k8 b j) (kU b j) (kZ a i) (kT a i) (kZ b j) (kT b j)) with hx15 | hx15
     ·have hx16 : ((ka0 (qK a i b j)) ≤ (ka0 (kS a i))) := cC (kS a i) (kS b j) (ka0 (kS a i))
      have hx17 : ((ka0 (uW a i b j)) = ((uO a i b j) * 2)) := uS _ _
      have hx18 : ((uO a i b j) ≤ 64) := v7 _ _
      have hx19 : ((ka0 (uU a i b j)) = ((uN a i b j) * 2)) := uS _ _
      have hx20 : ((uN a i b j) ≤ 64) := v7 _ _
      have hx21 : (MsW (qK a i b j)) := o4 ((BsW.ms (qC : BsW a) _)) _ _
      refine kH (.no :: .no :: .call [] (.tup [.agg [iC (qG (kR a i) (kR b j)), .d (dl (uW a i b j) (uO a i b j)), .d (D.sl (kI (qK a i b j)) (ka0 (qK a i b j))), .d (dl (uU a i b j) (uN a i b j))], .c (.d (D.lit (.bool true)))]) [] 0 [] none :: qD 6 []) (Fun 134 [(nL a i), (nL b j)] (kF []) 0 (.tup [.agg [iC (qG (kR a i) (kR b j)), .d (dl (uW a i b j) (uO a i b j)), .d (D.sl (kI (qK a i b j)) (ka0 (qK a i b j))), .d (dl (uU a i b j) (uN a i b j))], .c (.d (D.lit (.bool true)))]) (kF []) 0) [(1, .e (kY b m)), (6, oV 3 0 p 4), (8, rV 2 0), (11, rV 5 0), (12, bV true), (21, .e (kY a n)), (22, uV n), (23, uV i), (27, .e (kY b m)), (28, uV m), (29, uV j)] [(2, some (63, (aO a i))), (3, some (63, .ds (kP x))), (5, some (63, (k0w a i b j)))] 6 (by have h0 := (k2q (kR a i) (k8 a i) (kU a i) (kS a i) (ka0 (kS a i)) (kZ a i) (kT a i) (kR b j) (k8 b j) (kU b j) (kS b j) (ka0 (kS b j)) (kZ b j) (kT b j) zo zo rfl zo zo zo (BsW.ms (qC : BsW a) _) zo zo rfl zo zo zo (BsW.ms (qC : BsW b) _)); rw [hx15] at h0; exact h0) ?_
      refine AW.seq ?_
      rcases ka9 (eY (qG (kR a i) (kR b j)) (uW a i b j) (uO a i b j) (qK a i b j) (uU a i b j) (uN a i b j)) with hx22 | hx22
      ·refine kQ [.no, .call [] (bV true) [] 0 [] none, .no] (Fun 92 [.agg [iC (qG (kR a i) (kR b j)), .d (dl (uW a i b j) (uO a i b j)), .d (D.sl (kI (qK a i b j)) (ka0 (qK a i b j))), .d (dl (uU a i b j) (uN a i b j))]] (kF []) 0 (bV true) (kF []) 0) [(1, .e (kY b m)), (6, oV 3 0 p 4), (8, rV 2 0), (11, rV 5 0), (12, bV true), (21, .e (kY a n)), (22, uV n), (23, uV i), (27, .e (kY b m)), (28, uV m), (29, uV j), (41, bV false)] (by have h0 := (jN (qG (kR a i) (kR b j)) (uW a i b j) (uO a i b j) (qK a i b j) (ka0 (qK a i b j)) (uU a i b j) (uN a i b j) zo zo rfl zo zo zo (qC : MsW (qK a i b j))); rw [hx22] at h0; exact h0) ?_
       refine uP ?_
       refine AW.seq ?_
       by_cases hx23 : (((p : Nat) : Int) = 64)
       ·refine kQ (qD 5 [.b true, .no]) (((p : Int) = 64)) [(1, .e (kY b m)), (6, oV 3 0 p 4), (8, rV 2 0), (11, rV 5 0), (21, .e (kY a n)), (22, uV n), (23, uV i), (27, .e (kY b m)), (28, uV m), (29, uV j), (48, bV true)] zo ?_
        refine zt ?_
        refine kH [.no, .no] True [(4, nV), (5, iV 3)] [] 6 trivial ?_
        obtain ⟨hz1, hz2⟩ := v12 hx1 hx2 (k6n (i := i) (j := j) zo zo (by assumption) (by exact .inr (by rw [hJ.1]; omega)))
        refine y6 (l' := [(4, qB ([] : List D) 0), (5, iV 3)]) (g' := []) (NlS.cons rfl (.e (.c .nil)) (NlS.cons rfl (.same _) NlS.nil)) NlG.nil ?_
        refine AW.ret ?_
        exact kA (.inr rfl) [] (P := (((kP (yE a b)) : List D) = ([] : List D)) ∧ (((ka0 (yE a b)) : Nat) = 0) ∧ (((eE a b) : Int) = 3)) zk ⟨(by (rw [hz1]; rfl)), (by (rw [hz1]; rfl)), (by exact hz2)⟩
       ·refine kQ (qD 5 [.b false, .no]) (¬ ((p : Int) = 64)) [(1, .e (kY b m)), (6, oV 3 0 p 4), (8, rV 2 0), (11, rV 5 0), (21, .e (kY a n)), (22, uV n), (23, uV i), (27, .e (kY b m)), (28, uV m), (29, uV j), (48, bV false)] zo ?_
        refine uP ?_
        refine vY [.no, .no, .no, .ap none (p + 1) (kP (x ++ ([(gP a i b j)] : List Bx))), .no] (([iD (qG (kR a i) (kR b j)), dl (uW a i b j) (uO a i b j), D.sl (kI (qK a i b j)) (ka0 (qK a i b j)), dl (uU a i b j) (uN a i b j)].length = 1 * 4) ∧ (((kP x) : List D).length = p * 4) ∧ ((p + 1) * 80 ≤ 140737488355328) ∧ (p + 1 = (p + 1)) ∧ (((kP x) : List D) ++ [iD (qG (kR a i) (kR b j)), dl (uW a i b j) (uO a i b j), D.sl (kI (qK a i b j)) (ka0 (qK a i b j)), dl (uU a i b j) (uN a i b j)] = (kP (x ++ ([(gP a i b j)] : List Bx))))) [(1, .e (kY b m)), (6, oV 7 0 (p + 1) 4), (8, rV 2 0), (21, .e (kY a n)), (22, uV n), (23, uV i), (27, .e (kY b m)), (28, uV m), (29, uV j)] [(2, some (63, (aO a i))), (7, some (63, .ds (kP (x ++ ([(gP a i b j)] : List Bx)))))] 8 ⟨aM, aM, zo, zo, (sO x (qG (kR a i) (kR b j)) (uW a i b j) (uO a i b j) (qK a i b j) (ka0 (qK a i b j)) (uU a i b j) (uN a i b j) (by rfl))⟩ ?_
        refine u2 [.w, .no] (uZ ((j : Int) + 1)) [(1, .e (kY b m)), (6, oV 7 0 (p + 1) 4), (8, rV 2 0), (21, .e (kY a n)), (22, uV n), (23, uV i), (27, .e (kY b m)), (28, uV m), (29, iV (↑j + 1))] ⟨by omega, by omega⟩ ?_
        exact kV ⟨(((j + 1) : Nat), ((p + 1) : Nat), ((x ++ ([(gP a i b j)] : List Bx)) : List Bx)), ⟨zo, (by exact hJ.y (by assumption) (by assumption) zo), zD, (by exact hX.app (BsW.one (u4k hW _ _)))⟩⟩ [(3, 7)] (P := (kJ (kP b)) ∧ (kG m) ∧ (kG 0) ∧ (kG (p + 1)) ∧ (kG 0) ∧ (kJ (kP a)) ∧ (kG n) ∧ (kM (n : Int)) ∧ (kM (i : Int)) ∧ (kJ (kP b)) ∧ (kG m) ∧ (kM (m : Int)) ∧ (bU j) ∧ (kJ (kP (x ++ ([(gP a i b j)] : List Bx)))) ∧ (kJ (yJ a i))) zk ⟨rfl, rfl, rfl, rfl, rfl, rfl, rfl, rfl, rfl, rfl, rfl, rfl, (by rfl), rfl, rfl⟩ (show m - (j + 1) < m - j from zo)
      ·refine kQ [.no, .call [] (bV false) [] 0 [] none, .no] (Fun 92 [.agg [iC (qG (kR a i) (kR b j)), .d (dl (uW a i b j) (uO a i b j)), .d (D.sl (kI (qK a i b j)) (ka0 (qK a i b j))), .d (dl (uU a i b j) (uN a i b j))]] (kF []) 0 (bV false) (kF []) 0) [(1, .e (kY b m)), (6, oV 3 0 p 4), (8, rV 2 0), (11, rV 5 0), (12, bV true), (21, .e (kY a n)), (22, uV n), (23, uV i), (27, .e (kY b m)), (28, uV m), (29, uV j), (41, bV true)] (by have h0 := (jN (qG (kR a i) (kR b j)) (uW a i b j) (uO a i b j) (qK a i b j) (ka0 (qK a i b j)) (uU a i b j) (uN a i b j) zo zo rfl zo zo zo (qC : MsW (qK a i b j))); rw [hx22] at h0; exact h0) ?_
       refine zt ?_
       refine AW.exit ?_
       refine vY [.w, .no] (uZ ((j : Int) + 1)) [(1, .e (kY b m)), (6, oV 3 0 p 4), (8, rV 2 0), (21, .e (kY a n)), (22, uV n), (23, uV i), (27, .e (kY b m)), (28, uV m), (29, iV (↑j + 1))] [(2, some (63, (aO a i))), (3, some (63, .ds (kP x)))] 6 ⟨by omega, by omega⟩ ?_
       exact kV ⟨(((j + 1) : Nat), (p : Nat), (x : List Bx)), ⟨zo, (by exact hJ.n (by assumption)), (by assumption), (by assumption)⟩⟩ [] (P := (kJ (kP b)) ∧ (kG m) ∧ (kG 0) ∧ (kG p) ∧ (kG 0) ∧ (kJ (kP a)) ∧ (kG n) ∧ (kM (n : Int)) ∧ (kM (i : Int)) ∧ (kJ (kP b)) ∧ (kG m) ∧ (kM (m : Int)) ∧ (bU j) ∧ (kJ (kP x)) ∧ (kJ (yJ a i))) zk ⟨rfl, rfl, rfl, rfl, rfl, rfl, rfl, rfl, rfl, rfl, rfl, rfl, (by rfl), rfl, rfl⟩ (show m - (j + 1) < m - j from zo)
     ·have hx24 : ((ka0 (qK a i b j)) ≤ (ka0 (kS a i))) := cC (kS a i) (kS b j) (ka0 (kS a i))
      have hx25 : ((ka0 (uW a i b j)) = ((uO a i b j) * 2)) := uS _ _
      have hx26 : ((uO a i b j) ≤ 64) := v7 _ _
      have hx27 : ((ka0 (uU a i b j)) = ((uN a i b j) * 2)) := uS _ _
      have hx28 : ((uN a i b j) ≤ 64) := v7 _ _
      have hx29 : (MsW (qK a i b j)) := o4 ((BsW.ms (qC : BsW a) _)) _ _
      refine kH (.no :: .no :: .call [] (.tup [.agg [iC (qG (kR a i) (kR b j)), .d (dl (uW a i b j) (uO a i b j)), .d (D.sl (kI (qK a i b j)) (ka0 (qK a i b j))), .d (dl (uU a i b j) (uN a i b j))], .c (.d (D.lit (.bool false)))]) [] 0 [] none :: qD 6 []) (Fun 134 [(nL a i), (nL b j)] (kF []) 0 (.tup [.agg [iC (qG (kR a i) (kR b j)), .d (dl (uW a i b j) (uO a i b j)), .d (D.sl (kI (qK a i b j)) (ka0 (qK a i b j))), .d (dl (uU a i b j) (uN a i b j))], .c (.d (D.lit (.bool false)))]) (kF []) 0) [(1, .e (kY b m)), (6, oV 3 0 p 4), (8, rV 2 0), (11, rV 5 0), (12, bV false), (21, .e (kY a n)), (22, uV n), (23, uV i), (27, .e (kY b m)), (28, uV m), (29, uV j)] [(2, some (63, (aO a i))), (3, some (63, .ds (kP x))), (5, some (63, (k0w a i b j)))] 6 (by have h0 := (k2q (kR a i) (k8 a i) (kU a i) (kS a i) (ka0 (kS a i)) (kZ a i) (kT a i) (kR b j) (k8 b j) (kU b j) (kS b j) (ka0 (kS b j)) (kZ b j) (kT b j) zo zo rfl zo zo zo (BsW.ms (qC : BsW a) _) zo zo rfl zo zo zo (BsW.ms (qC : BsW b) _)); rw [hx15] at h0; exact h0) ?_
      refine AW.seq ?_
      rcases ka9 (eY (qG (kR a i) (kR b j)) (uW a i b j) (uO a i b j) (qK a i b j) (uU a i b j) (uN a i b j)) with hx30 | hx30
      ·refine kQ [.no, .call [] (bV true) [] 0 [] none, .no] (Fun 92 [.agg [iC (qG (kR a i) (kR b j)), .d (dl (uW a i b j) (uO a i b j)), .d (D.sl (kI (qK a i b j)) (ka0 (qK a i b j))), .d (dl (uU a i b j) (uN a i b j))]] (kF []) 0 (bV true) (kF []) 0) [(1, .e (kY b m)), (6, oV 3 0 p 4), (8, rV 2 0), (11, rV 5 0), (12, bV false), (21, .e (kY a n)), (22, uV n), (23, uV i), (27, .e (kY b m)), (28, uV m), (29, uV j), (41, bV false)] (by have h0 := (jN (qG (kR a i) (kR b j)) (uW a i b j) (uO a i b j) (qK a i b j) (ka0 (qK a i b j)) (uU a i b j) (uN a i b j) zo zo rfl zo zo zo (qC : MsW (qK a i b j))); rw [hx30] at h0; exact h0) ?_
       refine uP ?_
       refine AW.seq ?_
       refine kQ (qD 4 []) True [(1, .e (kY b m)), (6, oV 3 0 p 4), (8, rV 2 0), (11, rV 5 0), (21, .e (kY a n)), (22, uV n), (23, uV i), (27, .e (kY b m)), (28, uV m), (29, uV j), (48, bV true)] trivial ?_
       refine zt ?_
       refine kH [.no, .no] True [(4, nV), (5, iV 3)] [] 6 trivial ?_
       obtain ⟨hz1, hz2⟩ := v12 hx1 hx2 (k6n (i := i) (j := j) zo zo (by assumption) (by exact .inl (by assumption)))
       refine y6 (l' := [(4, qB ([] : List D) 0), (5, iV 3)]) (g' := []) (NlS.cons rfl (.e (.c .nil)) (NlS.cons rfl (.same _) NlS.nil)) NlG.nil ?_
       refine AW.ret ?_
       exact kA (.inr rfl) [] (P := (((kP (yE a b)) : List D) = ([] : List D)) ∧ (((ka0 (yE a b)) : Nat) = 0) ∧ (((eE a b) : Int) = 3)) zk ⟨(by (rw [hz1]; rfl)), (by (rw [hz1]; rfl)), (by exact hz2)⟩
      ·refine kQ [.no, .call [] (bV false) [] 0 [] none, .no] (Fun 92 [.agg [iC (qG (kR a i) (kR b j)), .d (dl (uW a i b j) (uO a i b j)), .d (D.sl (kI (qK a i b j)) (ka0 (qK a i b j))), .d (dl (uU a i b j) (uN a i b j))]] (kF []) 0 (bV false) (kF []) 0) [(1, .e (kY b m)), (6, oV 3 0 p 4), (8, rV 2 0), (11, rV 5 0), (12, bV false), (21, .e (kY a n)), (22, uV n), (23, uV i), (27, .e (kY b m)), (28, uV m), (29, uV j), (41, bV true)] (by have h0 := (jN (qG (kR a i) (kR b j)) (uW a i b j) (uO a i b j) (qK a i b j) (ka0 (qK a i b j)) (uU a i b j) (uN a i b j) zo zo rfl zo zo zo (qC : MsW (qK a i b j))); rw [hx30] at h0; exact h0) ?_
       refine zt ?_
       refine AW.exit ?_
       refine vY [.w, .no] (uZ ((j : Int) + 1)) [(1, .e (kY b m)), (6, oV 3 0 p 4), (8, rV 2 0), (21, .e (kY a n)), (22, uV n), (23, uV i), (27, .e (kY b m)), (28, uV m), (29, iV (↑j + 1))] [(2, some (63, (aO a i))), (3, some (63, .ds (kP x)))] 6 ⟨by omega, by omega⟩ ?_
       exact kV ⟨(((j + 1) : Nat), (p : Nat), (x : List Bx)), ⟨zo, (by exact hJ.n (by assumption)), (by assumption), (by assumption)⟩⟩ [] (P := (kJ (kP b)) ∧ (kG m) ∧ (kG 0) ∧ (kG p) ∧ (kG 0) ∧ (kJ (kP a)) ∧ (kG n) ∧ (kM (n : Int)) ∧ (kM (i : Int)) ∧ (kJ (kP b)) ∧ (kG m) ∧ (kM (m : Int)) ∧ (bU j) ∧ (kJ (kP x)) ∧ (kJ (yJ a i))) zk ⟨rfl, rfl, rfl, rfl, rfl, rfl, rfl, rfl, rfl, rfl, rfl, rfl, (by rfl), rfl, rfl⟩ (show m - (j + 1) < m - j from zo)
    ·refine kH [.b false] (¬ ((j : Int) < (m : Int))) [(1, .e (kY b m)), (6, oV 3 0 p 4), (8, rV 2 0), (21, .e (kY a n)), (22, uV n), (23, uV i), (27, .e (kY b m)), (28, uV m), (29, uV j), (30, bV false)] [(2, some (63, (aO a i))), (3, some (63, .ds (kP x)))] 4 zo ?_
     refine AW.seq ?_
     refine zf ?_
     refine AW.exit ?_
     refine vY [.w, .no] (uZ ((i : Int) + 1)) [(1, .e (kY b m)), (6, oV 3 0 p 4), (21, .e (kY a n)), (22, uV n), (23, iV (↑i + 1))] [(3, some (63, .ds (kP x)))] 4 ⟨by omega, by omega⟩ ?_
     exact kV ⟨(((i + 1) : Nat), (p : Nat), (x : List Bx)), ⟨zo, (hJ.out zo), (by assumption), (by assumption)⟩⟩ [(1, 3)] (P := (kJ (kP b)) ∧ (kG m) ∧ (kG 0) ∧ (kG p) ∧ (kJ (kP a)) ∧ (kG n) ∧ (kM (n : Int)) ∧ (bU i) ∧ (kJ (kP x))) zk ⟨rfl, rfl, rfl, rfl, rfl, rfl, rfl, (by rfl), rfl⟩ (show n - (i + 1) < n - i from zo)
   ·refine kH [.b false] (¬ ((i : Int) < (n : Int))) [(1, .e (kY b m)), (6, oV 1 0 q 4), (21, .e (kY a n)), (22, uV n), (23, uV i), (24, bV false)] [(1, some (63, .ds (kP o)))] 2 zo ?_
    refine AW.seq ?_
    refine zf ?_
    refine AW.exit ?_
    refine AW.freeze 1 (l' := [(1, .e (kY b m)), (6, .e (kY o q)), (21, .e (kY a n)), (22, uV n), (23, uV i), (24, bV false)]) (g' := []) rfl (FzS.cons rfl (.same _) (FzS.cons rfl (.e (.c (@FzC.own 1 ((kP o) : List D) 0 q 4 true ((kP o) : List D) pG aM))) (FzS.cons rfl (.same _) (FzS.cons rfl (.same _) (FzS.cons rfl (.same _) (FzS.cons rfl (.same _) FzS.nil)))))) FzG.nil ?_
    have hx31 : ((ka0 (aZ o)) ≤ q) := (ke0 (mH o) (Nat.le_of_eq (zo)))
    have hx32 : (((0 : Int) ≤ (iM o)) ∧ ((iM o) ≤ 1)) := gT o
    refine kH (.no :: .call [] (.tup [.c (.d (D.sl (kP (aZ o)) (ka0 (aZ o)))), iE (iM o)]) [] 0 [] none :: qD 4 []) _ [(4, .e (yL (aZ o))), (5, iV (iM o))] [] 2 (u02 o q zo zo (qC : BsW o)) ?_
    obtain ⟨hz1, hz2⟩ := k6u hx1 hx2 hI zo
    refine AW.ret ?_
    exact kA (.inr rfl) [] (P := (((kP (yE a b)) : List D) = (kP (aZ o))) ∧ (((ka0 (yE a b)) : Nat) = (ka0 (aZ o))) ∧ (((eE a b) : Int) = (iM o))) zk ⟨(by (rw [hz1]; done)), (by (rw [hz1]; done)), (by exact hz2)⟩
  ·refine kQ [.no, .call [] (bV true) [] 0 [] none, .no, .no, .no, .call [] (bV false) [] 0 [] none, .no, .no] ((Fun 60 [.c (.d (D.sl (kP a) n))] (kF []) 0 (bV true) (kF []) 0) ∧ (Fun 60 [.c (.d (D.sl (kP b) m))] (kF []) 0 (bV false) (kF []) 0)) [(0, .e (kY a n)), (1, .e (kY b m)), (20, bV true)] ⟨(by have h0 := (vV a n zo zo (qC : BsW a)); rw [hx1] at h0; exact h0), (by have h0 := (vV b m zo zo (qC : BsW b)); rw [hx2] at h0; exact h0)⟩ ?_
   refine zt ?_
   refine kQ [.no, .no] True [(4, nV), (5, iV 1)] trivial ?_
   obtain ⟨hz1, hz2⟩ := v4n hx2
   refine y6 (l' := [(4, qB ([] : List D) 0), (5, iV 1)]) (g' := []) (NlS.cons rfl (.e (.c .nil)) (NlS.cons rfl (.same _) NlS.nil)) NlG.nil ?_
   refine AW.ret ?_
   exact kA (.inr rfl) [] (P := (((kP (yE a b)) : List D) = ([] : List D)) ∧ (((ka0 (yE a b)) : Nat) = 0) ∧ (((eE a b) : Int) = 1)) zk ⟨(by (rw [hz1]; rfl)), (by (rw [hz1]; rfl)), (by exact hz2)⟩
 ·refine kQ [.no, .call [] (bV false) [] 0 [] none, .no, .no, .no] (Fun 60 [.c (.d (D.sl (kP a) n))] (kF []) 0 (bV false) (kF []) 0) [(0, .e (kY a n)), (1, .e (kY b m)), (20, bV true)] (by have h0 := (vV a n zo zo (qC : BsW a)); rw [hx1] at h0; exact h0) ?_
  refine zt ?_
  refine kQ [.no, .no] True [(4, nV), (5, iV 1)] trivial ?_
  obtain ⟨hz1, hz2⟩ := v4o hx1
  refine y6 (l' := [(4, qB ([] : List D) 0), (5, iV 1)]) (g' := []) (NlS.cons rfl (.e (.c .nil)) (NlS.cons rfl (.same _) NlS.nil)) NlG.nil ?_
  refine AW.ret ?_
  exact kA (.inr rfl) [] (P := (((kP (yE a b)) : List D) = ([] : List D)) ∧ (((ka0 (yE a b)) : Nat) = 0) ∧ (((eE a b) : Int) = 1)) zk ⟨(by (rw [hz1]; rfl)), (by (rw [hz1]; rfl)), (by exact hz2)⟩
end Go.Proofs.YtbicifcgghmhaaaGreat
