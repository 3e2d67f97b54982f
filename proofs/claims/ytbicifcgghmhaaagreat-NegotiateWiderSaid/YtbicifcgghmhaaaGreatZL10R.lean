/- Reduced lists, intersections. No statement is proved here. -/
import Derived.Test.YtbicifcgghmhaaaGreatZL10Q
import Derived.Test.YtbicifcgghmhaaaGreatZL10G
namespace Go.Proofs.YtbicifcgghmhaaaGreat
open Go.ChangeShapes Go.WideShapes Go.ChangeAt Go.RowKit
open Bool renaming and_false → kc7, eq_false_or_eq_true → ka9, false_and → kh4, not_true → kl4, or_true → kn8
open List renaming drop → ka3, drop_zero → kd3, getD → ka1, getD_eq_getElem?_getD → ka6, getElem?_eq_getElem → ka7, length → ka0, length_append → ka8, length_cons → kb0, length_drop → kb6, length_map → kc3, length_nil → kb2, length_replicate → kb5, length_reverse → kc0, length_set → kc1, length_take → kb4, take → ka5, take_of_length_le → kb7
open Nat renaming le_of_ble_eq_true → ka4, le_trans → kd9, mul_one → kc6, zero_le → kd7
set_option linter.unusedVariables false
set_option linter.unusedSimpArgs false
/-! chapter 10: boxes within boxes; reduced lists; intersections -/
set_option maxHeartbeats 4000000
set_option maxRecDepth 100000
def oM (a b : Int) : Int := qF .andNot .i64 a b
def nhB (ms : List (List Int)) (m : List Int) : Bool := !(gX ms m)
theorem v1k {ms : List (List Int)} {m : List Int} (h : gX ms m = false) : nhB ms m = true := by unfold nhB; rw [h]; rfl
theorem v1l {ms : List (List Int)} {m : List Int} (h : gX ms m = true) : nhB ms m = false := by unfold nhB; rw [h]; rfl
def zF (a b : List (List Int)) : Nat → Int := gY fun j => nhB b (ka1 a j [])
theorem v04 {a b : List (List Int)} {k : Nat} (h : zF a b k = -1) (h2 : nhB b (ka1 a k []) = false) : zF a b (k + 1) = -1 := b8 h h2
theorem v05 {a b : List (List Int)} {k : Nat} (h : zF a b k = -1) (h2 : nhB b (ka1 a k []) = true) {n : Nat} (hn : k < n) : zF a b n = (k : Int) := d5 h h2 n hn
def sgB (a b : List (List Int)) : Bool := decide (∃ m ∈ a, m ∉ b)
theorem v4g {a b : List (List Int)} {n : Nat} (hn : a.length = n) (h : 0 ≤ zF a b n) : sgB a b = true := by
 obtain ⟨k, hk, h1⟩ := pM h
 have hk : k < a.length := by omega
 refine decide_eq_true ⟨a[k], List.getElem_mem hk, fun e => ?_⟩
 have e2 : ka1 a k [] = a[k] := by rw [ka6, ka7 hk]; rfl
 have h1 : nhB b (ka1 a k []) = true := h1
 rw [e2, v1l (decide_eq_true e)] at h1; cases h1
theorem v4h {a b : List (List Int)} {n : Nat} (hn : a.length = n) (h : ¬ 0 ≤ zF a b n) : sgB a b = false := by
 refine decide_eq_false fun ⟨m, hm, e⟩ => ?_
 obtain ⟨k, hk, rfl⟩ := List.mem_iff_getElem.1 hm
 have h1 := jW h k (by omega)
 have e2 : ka1 a k [] = a[k] := by rw [ka6, ka7 hk]; rfl
 have h1 : nhB b (ka1 a k []) = false := h1
 rw [e2, v1k (decide_eq_false e)] at h1; cases h1
def oE (k : Int) (r : List Int) (rn : Nat) (m : List (List Int)) (s : List Int) (sn : Nat) (k2 : Int) (r2 : List Int) (rn2 : Nat) (m2 : List (List Int)) (s2 : List Int) (sn2 : Nat) : Bool := decide (oM k k2 = 0) && (xF (kB r rn) (kB r2 rn2) && (!(sgB m m2) && xF (kB s sn) (kB s2 sn2)))
theorem v58 {k : Int} {r : List Int} {rn : Nat} {m : List (List Int)} {s : List Int} {sn : Nat} {k2 : Int} {r2 : List Int} {rn2 : Nat} {m2 : List (List Int)} {s2 : List Int} {sn2 : Nat} (h1 : oM k k2 = 0) (h2 : xF (kB r rn) (kB r2 rn2) = true) (h3 : sgB m m2 = false) (h4 : xF (kB s sn) (kB s2 sn2) = true) : oE k r rn m s sn k2 r2 rn2 m2 s2 sn2 = true := by
 unfold oE; rw [decide_eq_true h1, h2, h3, h4]; rfl
theorem v5c {k : Int} {r : List Int} {rn : Nat} {m : List (List Int)} {s : List Int} {sn : Nat} {k2 : Int} {r2 : List Int} {rn2 : Nat} {m2 : List (List Int)} {s2 : List Int} {sn2 : Nat} (h1 : ¬ oM k k2 = 0) : oE k r rn m s sn k2 r2 rn2 m2 s2 sn2 = false := by
 unfold oE; rw [decide_eq_false h1]; rfl
theorem v5a {k : Int} {r : List Int} {rn : Nat} {m : List (List Int)} {s : List Int} {sn : Nat} {k2 : Int} {r2 : List Int} {rn2 : Nat} {m2 : List (List Int)} {s2 : List Int} {sn2 : Nat} (h2 : xF (kB r rn) (kB r2 rn2) = false) : oE k r rn m s sn k2 r2 rn2 m2 s2 sn2 = false := by
 unfold oE; rw [h2, kh4, kc7]
theorem v5b {k : Int} {r : List Int} {rn : Nat} {m : List (List Int)} {s : List Int} {sn : Nat} {k2 : Int} {r2 : List Int} {rn2 : Nat} {m2 : List (List Int)} {s2 : List Int} {sn2 : Nat} (h3 : sgB m m2 = true) : oE k r rn m s sn k2 r2 rn2 m2 s2 sn2 = false := by
 unfold oE; rw [h3, kl4, kh4, kc7, kc7]
theorem v59 {k : Int} {r : List Int} {rn : Nat} {m : List (List Int)} {s : List Int} {sn : Nat} {k2 : Int} {r2 : List Int} {rn2 : Nat} {m2 : List (List Int)} {s2 : List Int} {sn2 : Nat} (h4 : xF (kB s sn) (kB s2 sn2) = false) : oE k r rn m s sn k2 r2 rn2 m2 s2 sn2 = false := by
 unfold oE; rw [h4, kc7, kc7, kc7]
def niE (xs : List Bx) (i : Nat) (ys : List Bx) (j : Nat) : Bool := oE (kQ xs i) (kY xs i) (kV xs i) (kT xs i) (kX xs i) (kU xs i) (kQ ys j) (kY ys j) (kV ys j) (kT ys j) (kX ys j) (kU ys j)
def nZ (xs : List Bx) (i j : Nat) : Bool := decide (j ≠ i) && (niE xs i xs j && (decide (j < i) || !(niE xs j xs i)))
def goB (xs : List Bx) (i : Nat) : Bool := decide (∃ j, j < xs.length ∧ nZ xs i j = true)
theorem v2a {xs : List Bx} {i j : Nat} (hj : j < xs.length) (h : nZ xs i j = true) : goB xs i = true := decide_eq_true ⟨j, hj, h⟩
theorem v2b {xs : List Bx} {i : Nat} (h : ∀ j, j < xs.length → nZ xs i j = false) : goB xs i = false := decide_eq_false fun ⟨j, hj, e⟩ => by
 have := h j hj; rw [this] at e; cases e
theorem v5x {xs : List Bx} {i j : Nat} (h0 : ¬ j = i) (h1 : niE xs i xs j = true) (h2 : j < i) : nZ xs i j = true := by
 unfold nZ; rw [decide_eq_true h0, h1, decide_eq_true h2]; rfl
theorem v5w {xs : List Bx} {i j : Nat} (h0 : ¬ j = i) (h1 : niE xs i xs j = true) (h2 : niE xs j xs i = false) : nZ xs i j = true := by
 unfold nZ; rw [decide_eq_true h0, h1, h2, Bool.not_false, kn8]; rfl
theorem u85 {xs : List Bx} {i j : Nat} (h0 : j = i) : nZ xs i j = false := by
 unfold nZ; rw [decide_eq_false (fun e => e h0)]; rfl
theorem v5y {xs : List Bx} {i j : Nat} (h1 : niE xs i xs j = false) : nZ xs i j = false := by
 unfold nZ; rw [h1, kh4, kc7]
theorem v5z {xs : List Bx} {i j : Nat} (h1 : niE xs j xs i = true) (h2 : ¬ j < i) : nZ xs i j = false := by
 unfold nZ; rw [h1, decide_eq_false h2, kl4, Bool.or_false, kc7, kc7]
def bxP (xs : List Bx) (i : Nat) : Bx := kE (kQ xs i) (kY xs i) (kV xs i) (kT xs i) (kX xs i) (kU xs i)
def oZ (xs : List Bx) : Nat → List Bx
 | 0 => []
 | i + 1 => if goB xs i = true then oZ xs i else oZ xs i ++ [bxP xs i]
theorem v4m {xs o : List Bx} {i : Nat} (h : oZ xs i = o) (h1 : goB xs i = true) : oZ xs (i + 1) = o := by subst h; exact if_pos h1
theorem v4n {xs o : List Bx} {i : Nat} (h : oZ xs i = o) (h1 : goB xs i = false) : oZ xs (i + 1) = o ++ [kE (kQ xs i) (kY xs i) (kV xs i) (kT xs i) (kX xs i) (kU xs i)] := by subst h; exact if_neg (by rw [h1]; decide)
def bD (xs : List Bx) : List Bx := if cF xs = true then oZ xs xs.length else []
def jB (xs : List Bx) : Int := if cF xs = true then 0 else 1
theorem k5x {xs : List Bx} (h : cF xs = true) : bD xs = oZ xs xs.length ∧ jB xs = 0 := ⟨if_pos h, if_pos h⟩
theorem v0q {xs : List Bx} (h : cF xs = false) : bD xs = [] ∧ jB xs = 1 := ⟨if_neg (by rw [h]; decide), if_neg (by rw [h]; decide)⟩
theorem k5w {xs : List Bx} (h : BsW xs) : ∀ i, BsW (oZ xs i)
 | 0 => BsW.nil
 | i + 1 => by
  rw [oZ]; split
  ·exact k5w h i
  ·exact (k5w h i).app (BsW.one (h.box i))
theorem k02 (xs : List Bx) : ∀ i, ka0 (oZ xs i) ≤ i
 | 0 => Nat.le_refl _
 | i + 1 => by
  have := k02 xs i
  rw [oZ]; split
  ·omega
  ·rw [ka8, List.length_singleton]; omega
theorem k5y {xs : List Bx} (h : BsW xs) : BsW (bD xs) := by unfold bD; split; exact k5w h _; exact BsW.nil
theorem m7 (xs : List Bx) : ka0 (bD xs) ≤ ka0 xs := by unfold bD; split; exact k02 xs _; exact kd7 _
theorem hY (xs : List Bx) : 0 ≤ jB xs ∧ jB xs ≤ 1 := by unfold jB; split <;> decide
def dQ (l : List Int) (v : Int) : Nat → List Int
 | 0 => []
 | k + 1 => if v < ka1 l (k * 2 + 1) 0 then dQ l v k ++ [max (ka1 l (k * 2) 0) (v + 1), ka1 l (k * 2 + 1) 0] else dQ l v k
def lH (l : List Int) (v : Int) (k : Nat) : Nat := (dQ l v k).length / 2
theorem v6n {l o : List Int} {v x y : Int} {k : Nat} (h : dQ l v k = o) (h1 : v < ka1 l (k * 2 + 1) 0) (hx : x = max (ka1 l (k * 2) 0) (v + 1)) (hy : y = ka1 l (k * 2 + 1) 0) : dQ l v (k + 1) = o ++ [x, y] := by subst h; rw [hx, hy]; exact if_pos h1
theorem v6o {l o : List Int} {v : Int} {k : Nat} (h : dQ l v k = o) (h1 : ¬ v < ka1 l (k * 2 + 1) 0) : dQ l v (k + 1) = o := by subst h; exact if_neg h1
theorem tG (l : List Int) (v : Int) (k : Nat) : ka0 (dQ l v k) = lH l v k * 2 ∧ lH l v k ≤ k := by
 have h : ∃ j, j ≤ k ∧ ka0 (dQ l v k) = j * 2 := by
  induction k with
  | zero => exact ⟨0, Nat.le_refl _, rfl⟩
  | succ k ih =>
   obtain ⟨j, hj, e⟩ := ih
   rw [dQ]; split
   ·exact ⟨j + 1, by omega, by rw [ka8, e]; simp only [kb0, kb2]; omega⟩
   ·exact ⟨j, by omega, e⟩
 obtain ⟨j, hj, e⟩ := h
 unfold lH; omega
def lW (r : List Int) (rn : Nat) (r2 : List Int) (rn2 : Nat) : Bool := decide (qK (kB r rn) (kB r2 rn2) < 64) || decide (qK (kB (dQ r (ka1 (uF (kB r rn) (kB r2 rn2)) 127 0) rn) (lH r (ka1 (uF (kB r rn) (kB r2 rn2)) 127 0) rn)) (kB r2 rn2) = 0)
theorem u7r {r : List Int} {rn : Nat} {r2 : List Int} {rn2 : Nat} (h : qK (kB r rn) (kB r2 rn2) < 64) : lW r rn r2 rn2 = true := by unfold lW; rw [decide_eq_true h]; rfl
theorem v5h {r : List Int} {rn : Nat} {r2 : List Int} {rn2 : Nat} (h : qK (kB (dQ r (ka1 (uF (kB r rn) (kB r2 rn2)) 127 0) rn) (lH r (ka1 (uF (kB r rn) (kB r2 rn2)) 127 0) rn)) (kB r2 rn2) = 0) : lW r rn r2 rn2 = true := by unfold lW; rw [decide_eq_true h, kn8]
theorem v5i {r : List Int} {rn : Nat} {r2 : List Int} {rn2 : Nat} (h1 : ¬ qK (kB r rn) (kB r2 rn2) < 64) (h : ¬ qK (kB (dQ r (ka1 (uF (kB r rn) (kB r2 rn2)) 127 0) rn) (lH r (ka1 (uF (kB r rn) (kB r2 rn2)) 127 0) rn)) (kB r2 rn2) = 0) : lW r rn r2 rn2 = false := by unfold lW; rw [decide_eq_false h, decide_eq_false h1]; rfl
theorem u4z {a b : List Int} {n m : Nat} (ha : a.length = n * 2) (hb : b.length = m * 2) : bW (qO (uF (kB a n) (kB b m))) := by
 unfold uF; rw [gO]
 have h := k2d (bC ha) (bC hb)
 have e := List.take_append_drop 64 (aP (qO (kB a n)) (qO (kB b m)))
 generalize ka5 64 (aP (qO (kB a n)) (qO (kB b m))) = t at *
 generalize ka3 64 (aP (qO (kB a n)) (qO (kB b m))) = d at *
 rw [← e] at h
 clear e
 induction t with
 | nil => trivial
 | cons p t ih => exact ⟨h.1, fun q hq => h.2.1 q (List.mem_append_left _ hq), ih h.2.2⟩
theorem v25 {a b : List Int} {n m : Nat} (ha : a.length = n * 2) (hb : b.length = m * 2) (h : 64 ≤ qK (kB a n) (kB b m)) : 0 ≤ ka1 (uF (kB a n) (kB b m)) 127 0 ∧ ka1 (uF (kB a n) (kB b m)) 127 0 ≤ 2147483647 := by
 have h1 := cW (u4z ha hb) _ ((u7 (uR (kB a n) (kB b m))).2 ⟨63, by omega, rfl⟩)
 unfold dD at h1
 have h1 : 0 ≤ ka1 (uF (kB a n) (kB b m)) 126 0 ∧ ka1 (uF (kB a n) (kB b m)) 126 0 ≤ ka1 (uF (kB a n) (kB b m)) 127 0 ∧ ka1 (uF (kB a n) (kB b m)) 127 0 ≤ 2147483647 := h1
 omega
def xsB (r : List Int) (rn : Nat) (r2 : List Int) (rn2 : Nat) (s : List Int) (sn : Nat) (s2 : List Int) (sn2 : Nat) : Bool := lW r rn r2 rn2 && lW s sn s2 sn2
theorem u6r {r : List Int} {rn : Nat} {r2 : List Int} {rn2 : Nat} {s : List Int} {sn : Nat} {s2 : List Int} {sn2 : Nat} (h1 : lW r rn r2 rn2 = true) (h2 : lW s sn s2 sn2 = true) : xsB r rn r2 rn2 s sn s2 sn2 = true := by unfold xsB; rw [h1, h2]; rfl
theorem u9m {r : List Int} {rn : Nat} {r2 : List Int} {rn2 : Nat} {s : List Int} {sn : Nat} {s2 : List Int} {sn2 : Nat} (h1 : lW r rn r2 rn2 = false) : xsB r rn r2 rn2 s sn s2 sn2 = false := by unfold xsB; rw [h1]; rfl
theorem v40 {r : List Int} {rn : Nat} {r2 : List Int} {rn2 : Nat} {s : List Int} {sn : Nat} {s2 : List Int} {sn2 : Nat} (h2 : lW s sn s2 sn2 = false) : xsB r rn r2 rn2 s sn s2 sn2 = false := by unfold xsB; rw [h2, kc7]
/-! the boxes made of each box of one list with each box of another one -/
def crB (xs ys : List Bx) (i j : Nat) : Bx := kE (qG (kQ xs i) (kQ ys j)) (uF (kB (kY xs i) (kV xs i)) (kB (kY ys j) (kV ys j))) (qK (kB (kY xs i) (kV xs i)) (kB (kY ys j) (kV ys j))) (uS (kT xs i) (kT ys j) (ka0 (kT xs i))) (uF (kB (kX xs i) (kU xs i)) (kB (kX ys j) (kU ys j))) (qK (kB (kX xs i) (kU xs i)) (kB (kX ys j) (kU ys j)))
def zO (xs ys : List Bx) (i j : Nat) : Bool := fF (qG (kQ xs i) (kQ ys j)) (uF (kB (kY xs i) (kV xs i)) (kB (kY ys j) (kV ys j))) (qK (kB (kY xs i) (kV xs i)) (kB (kY ys j) (kV ys j))) (uS (kT xs i) (kT ys j) (ka0 (kT xs i))) (uF (kB (kX xs i) (kU xs i)) (kB (kX ys j) (kU ys j))) (qK (kB (kX xs i) (kU xs i)) (kB (kX ys j) (kU ys j)))
def crS (xs ys : List Bx) (i j : Nat) : Bool := xsB (kY xs i) (kV xs i) (kY ys j) (kV ys j) (kX xs i) (kU xs i) (kX ys j) (kU ys j)
theorem u5q {xs ys : List Bx} (h : BsW xs) (i j : Nat) : zS (crB xs ys i j) := by
 refine ⟨uR _ _, uR _ _, kd9 (v9 _ _) (by decide), kd9 (v9 _ _) (by decide), ?_, pP (h.ms i) _ _⟩
 have h1 := cN (kT xs i) (kT ys j) (ka0 (kT xs i))
 have h2 := h.at i
 show ka0 (uS _ _ _) ≤ _
 omega
def cjL (xs ys : List Bx) (i : Nat) (o : List Bx) : Nat → List Bx
 | 0 => o
 | j + 1 => if zO xs ys i j = true then cjL xs ys i o j ++ [crB xs ys i j] else cjL xs ys i o j
def ciL (xs ys : List Bx) : Nat → List Bx
 | 0 => []
 | i + 1 => cjL xs ys i (ciL xs ys i) (ka0 ys)
def ljB (xs ys : List Bx) (i : Nat) (b : Bool) : Nat → Bool
 | 0 => b
 | j + 1 => ljB xs ys i b j && (!(zO xs ys i j) || (crS xs ys i j && decide (ka0 (cjL xs ys i (ciL xs ys i) j) ≠ 64)))
def liB (xs ys : List Bx) : Nat → Bool
 | 0 => true
 | i + 1 => ljB xs ys i (liB xs ys i) (ka0 ys)
theorem k28 (xs ys : List Bx) (i : Nat) (b : Bool) (j : Nat) : ∀ k, ljB xs ys i b j = false → ljB xs ys i b (j + k) = false
 | 0, h => h
 | k + 1, h => by
  show (ljB xs ys i b (j + k) && _) = false
  rw [k28 xs ys i b j k h]; rfl
theorem v1z (xs ys : List Bx) (i : Nat) : ∀ k, ljB xs ys i false k = false
 | 0 => rfl
 | k + 1 => by
  show (ljB xs ys i false k && _) = false
  rw [v1z xs ys i k]; rfl
theorem k29 (xs ys : List Bx) (i : Nat) : ∀ k, liB xs ys i = false → liB xs ys (i + k) = false
 | 0, h => h
 | k + 1, h => by
  show ljB xs ys (i + k) (liB xs ys (i + k)) _ = false
  rw [k29 xs ys i k h]; exact v1z ..
theorem k7c {xs ys : List Bx} {i j : Nat} (hi : i < ka0 xs) (hj : j < ka0 ys) (h1 : zO xs ys i j = true) (h2 : crS xs ys i j = false ∨ ka0 (cjL xs ys i (ciL xs ys i) j) = 64) : liB xs ys (ka0 xs) = false := by
 have a1 : ljB xs ys i (liB xs ys i) (j + 1) = false := by
  show (_ && (!(zO xs ys i j) || _)) = false
  rw [h1]
  rcases h2 with h2 | h2
  ·rw [h2]; simp
  ·rw [h2]; simp
 have a2 := k28 xs ys i (liB xs ys i) (j + 1) (ka0 ys - (j + 1)) a1
 rw [show j + 1 + (ka0 ys - (j + 1)) = ka0 ys by omega] at a2
 have a3 := k29 xs ys (i + 1) (ka0 xs - (i + 1)) a2
 rw [show i + 1 + (ka0 xs - (i + 1)) = ka0 xs by omega] at a3
 exact a3
def CI (xs ys : List Bx) (i : Nat) (o : List Bx) : Prop := ciL xs ys i = o ∧ liB xs ys i = true
def CJ2 (xs ys : List Bx) (i j : Nat) (o : List Bx) : Prop := cjL xs ys i (ciL xs ys i) j = o ∧ ljB xs ys i (liB xs ys i) j = true
theorem CI.zero (xs ys : List Bx) : CI xs ys 0 [] := ⟨rfl, rfl⟩
theorem CI.in {xs ys : List Bx} {i : Nat} {o : List Bx} (h : CI xs ys i o) : CJ2 xs ys i 0 o := h
theorem CJ2.out {xs ys : List Bx} {i j : Nat} {o : List Bx} (h : CJ2 xs ys i j o) (hj : j = ka0 ys) : CI xs ys (i + 1) o := by subst hj; exact h
theorem CJ2.n {xs ys : List Bx} {i j : Nat} {o : List Bx} (h : CJ2 xs ys i j o) (h1 : zO xs ys i j = false) : CJ2 xs ys i (j + 1) o := by
 refine ⟨?_, ?_⟩
 ·show (if zO xs ys i j = true then _ else _) = o
  rw [if_neg (by rw [h1]; decide)]; exact h.1
 ·show (ljB xs ys i (liB xs ys i) j && _) = true
  rw [h.2, h1]; rfl
theorem CJ2.y {xs ys : List Bx} {i j : Nat} {o : List Bx} (h : CJ2 xs ys i j o) (h1 : zO xs ys i j = true) (h2 : crS xs ys i j = true) (h3 : ¬ ka0 o = 64) : CJ2 xs ys i (j + 1) (o ++ [crB xs ys i j]) := by
 refine ⟨?_, ?_⟩
 ·show (if zO xs ys i j = true then _ else _) = _
  rw [if_pos h1, h.1]
 ·show (ljB xs ys i (liB xs ys i) j && (!(zO xs ys i j) || (crS xs ys i j && decide _))) = true
  rw [h.2, h1, h2, h.1, decide_eq_true h3]; rfl
def ixV (a b : List Bx) : Bool := cF a && cF b
def yE (a b : List Bx) : List Bx := if ixV a b = true then (if liB a b (ka0 a) = true then bD (ciL a b (ka0 a)) else []) else []
def eN (a b : List Bx) : Int := if ixV a b = true then (if liB a b (ka0 a) = true then jB (ciL a b (ka0 a)) else 3) else 1
theorem v5o {a b : List Bx} (h : cF a = false) : yE a b = [] ∧ eN a b = 1 := by unfold yE eN ixV; rw [h]; exact ⟨rfl, rfl⟩
theorem v5n {a b : List Bx} (h : cF b = false) : yE a b = [] ∧ eN a b = 1 := by unfold yE eN ixV; rw [h, kc7]; exact ⟨rfl, rfl⟩
theorem v24 {a b : List Bx} (h1 : cF a = true) (h2 : cF b = true) (h : liB a b (ka0 a) = false) : yE a b = [] ∧ eN a b = 3 := by unfold yE eN ixV; rw [h1, h2, h]; exact ⟨rfl, rfl⟩
theorem k7k {a b o : List Bx} {i : Nat} (h1 : cF a = true) (h2 : cF b = true) (h : CI a b i o) (hi : i = ka0 a) : yE a b = bD o ∧ eN a b = jB o := by
 subst hi
 unfold yE eN ixV; rw [h1, h2, h.1, h.2]; exact ⟨rfl, rfl⟩
theorem k9y {xs ys : List Bx} (h : BsW xs) (i : Nat) {o : List Bx} (ho : BsW o) : ∀ j, BsW (cjL xs ys i o j)
 | 0 => ho
 | j + 1 => by
  rw [cjL]; split
  ·exact (k9y h i ho j).app (BsW.one (u5q h i j))
  ·exact k9y h i ho j
theorem u5r {xs ys : List Bx} (h : BsW xs) : ∀ i, BsW (ciL xs ys i)
 | 0 => BsW.nil
 | i + 1 => k9y h i (u5r h i) _
theorem u4y {a b : List Bx} (h : BsW a) : BsW (yE a b) := by
 unfold yE; split
 ·split
  ·exact k5y (u5r h _)
  ·exact BsW.nil
 ·exact BsW.nil
theorem sM (a b : List Bx) : 0 ≤ eN a b ∧ eN a b ≤ 3 := by
 unfold eN; split
 ·split
  ·have := hY (ciL a b (ka0 a)); omega
  ·decide
 ·decide
theorem k03 (xs : List Bx) : ka0 (bD xs) ≤ 64 := by
 unfold bD; split
 ·rename_i h
  have h1 := (of_decide_eq_true h).1
  exact kd9 (k02 xs _) h1
 ·exact kd7 _
theorem sL (a b : List Bx) : ka0 (yE a b) ≤ 64 := by
 unfold yE; split
 ·split
  ·exact k03 _
  ·exact kd7 _
 ·exact kd7 _
def siX (k r : Int) (m : List Int) (z : Int) : List Bx := [kE (IntKind.i64.wrap (1 * ((2 ^ k.toNat : Nat) : Int))) [r, r] 1 [m] [z, z] 1]
def qL (k r : Int) (m : List Int) (z : Int) : List Bx := if 1 ≤ k ∧ k ≤ 7 then kK (siX k r m z) else []
theorem u4d (k r : Int) (m : List Int) (z : Int) (h : ka0 m ≤ 1000000) : BsW (siX k r m z) := BsW.one ⟨rfl, rfl, (by decide : 1 ≤ 1000000), (by decide : 1 ≤ 1000000), (by decide : 1 ≤ 1000000), fun l hl => by rw [List.mem_singleton.1 hl]; exact h⟩
theorem v0d (k r : Int) (m : List Int) (z : Int) (h : ka0 m ≤ 1000000) : BsW (qL k r m z) := by
 unfold qL; split; exact dP (u4d k r m z h); exact BsW.nil
theorem mS (k r : Int) (m : List Int) (z : Int) : ka0 (qL k r m z) ≤ 1 := by
 unfold qL; split; exact j0 _; exact kd7 _
theorem u1z {m : List (List Int)} {z : Nat} (h : z < m.length) : kI (ka5 (z + 1) m) = kI (ka5 z m ++ [ka1 m z []]) := by
 rw [List.take_succ_eq_append_getElem h, ka6, ka7 h]; rfl
theorem u6d (a : List Int) (n : Nat) (k : Int) (r : List Int) (rn : Nat) (m : List (List Int)) (c : Nat) (s : List Int) (sn : Nat) (hn : ka0 a = n) (h1 : n ≤ 1000000) (hc : ka0 m = c) (h3 : c ≤ 1000000) (hW : MsW m) : Fun 130 [.c (.d (D.sl (dI .i64 a) n)), .c (.ptr 0 0)] (kF [(0, some (63, .ds [iD k, D.sl (dI .i64 r) rn, D.sl (kI m) c, D.sl (dI .i64 s) sn]))]) 1 (uW (D.lit (.bool (nhB m a)))) (kF [(0, some (63, .ds [iD k, D.sl (dI .i64 r) rn, D.sl (kI m) c, D.sl (dI .i64 s) sn]))]) 1 := by
 refine Fun.mk (n := 9) Tryz.func130 rfl rfl (ka4 rfl) ?_
 intro cx hcx
 refine kH [.no] True [(0, sV .i64 a n), (1, rV 0 0)] [(0, some (63, .ds [iD k, dl r rn, D.sl (kI m) c, dl s sn]))] 1 trivial ?_
 rcases ka9 (gX m a) with hx1 | hx1
 ·refine kS [.no, .no, .no, .call [] (bV true) [] 0 [] none, .no, .no] (Fun 126 [.c (.d (D.sl (kI m) c)), .c (.d (dl a n))] (kF []) 0 (bV true) (kF []) 0) [(3, bV false)] (by have h0 := (i9 m c a n zo zo zo zo (qD : MsW m)); rw [hx1] at h0; exact h0) ?_
  refine AW.ret ?_
  exact kA (.inr rfl) [] (P := ((nhB m a) = false) ∧ (kJ [iD k, dl r rn, D.sl (kI m) c, dl s sn])) zk ⟨(by exact v1l (by assumption)), rfl⟩
 ·refine kS [.no, .no, .no, .call [] (bV false) [] 0 [] none, .no, .no] (Fun 126 [.c (.d (D.sl (kI m) c)), .c (.d (dl a n))] (kF []) 0 (bV false) (kF []) 0) [(3, bV true)] (by have h0 := (i9 m c a n zo zo zo zo (qD : MsW m)); rw [hx1] at h0; exact h0) ?_
  refine AW.ret ?_
  exact kA (.inr rfl) [] (P := ((nhB m a) = true) ∧ (kJ [iD k, dl r rn, D.sl (kI m) c, dl s sn])) zk ⟨(by exact v1k (by assumption)), rfl⟩
abbrev bM (k : Int) (r : List Int) (rn : Nat) (m : List (List Int)) (c : Nat) (s : List Int) (sn : Nat) : BC := .ds [iD k, D.sl (dI .i64 r) rn, D.sl (kI m) c, D.sl (dI .i64 s) sn]
theorem u6c (a : List (List Int)) (n : Nat) (k : Int) (r : List Int) (rn : Nat) (m : List (List Int)) (c : Nat) (s : List Int) (sn : Nat) (hn : ka0 a = n) (h1 : n ≤ 1000000) (hA : MsW a) (hc : ka0 m = c) (h3 : c ≤ 1000000) (hW : MsW m) : Fun 159 [.c (.d (D.sl (kI a) n)), .c (.fn 130 [(0, 0)])] (kF [(0, some (63, .ds [iD k, D.sl (dI .i64 r) rn, D.sl (kI m) c, D.sl (dI .i64 s) sn]))]) 1 (iV (zF a m n)) (kF [(0, some (63, .ds [iD k, D.sl (dI .i64 r) rn, D.sl (kI m) c, D.sl (dI .i64 s) sn]))]) 1 := by
 refine Fun.mk (n := 19) Tryz.func159 rfl rfl (ka4 rfl) ?_
 intro cx hcx
 refine kH [.no] True [(0, qC (kI a) n), (1, .e (.c (.fn 130 [(0, 0)])))] [(0, some (63, (bM k r rn m c s sn)))] 1 trivial ?_
 refine AW.seq ?_
 refine kS [.no, .no, .no] True [(0, qC (kI a) n), (1, .e (.c (.fn 130 [(0, 0)]))), (7, uV n), (8, iV 0)] trivial ?_
 refine AW.block ?_
 refine k8 1 hcx (fun (x : {x : Nat // match x with | z => (z ≤ n) ∧ (zF a m z = -1)}) => match x with | ⟨z, _⟩ => (⟨[(0, qC (kI a) n), (1, .e (.c (.fn 130 [(0, 0)]))), (7, uV n), (8, uV z)], [(0, some (63, (bM k r rn m c s sn)))], 1⟩ : ES)) (fun x => match x with | ⟨z, _⟩ => n - z) ⟨(0 : Nat), ⟨zo, rfl⟩⟩ [] (P := (kJ (kI a)) ∧ (kG n) ∧ (kM (n : Int)) ∧ (kM 0) ∧ (kJ [iD k, dl r rn, D.sl (kI m) c, dl s sn])) zk ⟨rfl, rfl, rfl, rfl, rfl⟩ ?_
 rintro ⟨z, hinv0⟩
 obtain ⟨hk, hi⟩ : (z ≤ n) ∧ (zF a m z = -1) := hinv0
 refine qW (l := [(0, qC (kI a) n), (1, .e (.c (.fn 130 [(0, 0)]))), (7, uV n), (8, uV z)]) (g := [(0, some (63, (bM k r rn m c s sn)))]) (nx := 1) rfl rfl rfl ?_
 by_cases hx1 : (((z : Nat) : Int) < ((n : Nat) : Int))
 ·refine kH [.b true] (((z : Int) < (n : Int))) [(0, qC (kI a) n), (1, .e (.c (.fn 130 [(0, 0)]))), (7, uV n), (8, uV z), (9, bV true)] [(0, some (63, (bM k r rn m c s sn)))] 1 zo ?_
  refine AW.seq ?_
  refine vL ?_
  refine AW.seq ?_
  refine AW.block ?_
  refine kS [.no, .no] True [(0, qC (kI a) n), (1, .e (.c (.fn 130 [(0, 0)]))), (5, uV z), (7, uV n), (8, uV z)] trivial ?_
  rcases ka9 (nhB m (ka1 a z ([] : List Int))) with hx3 | hx3
  ·have hx4 : ((ka0 (ka1 a z ([] : List Int))) ≤ 1000000) := MsW.at (qD : MsW a) _
   refine kS [.no, .no, .no, .n z, .d (dl (ka1 a z ([] : List Int)) (ka0 (ka1 a z ([] : List Int)))), .call [0] (bV true) [(0, some (63, (bM k r rn m c s sn)))] 1 [] none] ((kM (z : Int)) ∧ (z < n) ∧ ((ka3 z (kI a))[0]? = some (dl (ka1 a z ([] : List Int)) (ka0 (ka1 a z ([] : List Int))))) ∧ (Fun 130 [.c (.d (dl (ka1 a z ([] : List Int)) (ka0 (ka1 a z ([] : List Int))))), .c (.ptr 0 0)] (kF [(0, some (63, (bM k r rn m c s sn)))]) 1 (bV true) (kF [(0, some (63, (bM k r rn m c s sn)))]) 1)) [(0, qC (kI a) n), (1, .e (.c (.fn 130 [(0, 0)]))), (5, uV z), (7, uV n), (8, uV z), (16, bV true)] ⟨rfl, zo, (bE _ _ zo), (by have h0 := (u6d (ka1 a z ([] : List Int)) (ka0 (ka1 a z ([] : List Int))) k r rn m c s sn rfl zo zo zo (qD : MsW m)); rw [hx3] at h0; exact h0)⟩ ?_
   refine zt ?_
   refine kS [.no, .no] True [(4, uV z)] trivial ?_
   refine AW.ret ?_
   exact kA (.inr rfl) [] (P := (((zF a m n) : Int) = (z : Int)) ∧ (kJ [iD k, dl r rn, D.sl (kI m) c, dl s sn])) zk ⟨(by exact v05 hi (by assumption) zo), rfl⟩
  ·have hx5 : ((ka0 (ka1 a z ([] : List Int))) ≤ 1000000) := MsW.at (qD : MsW a) _
   refine kS [.no, .no, .no, .n z, .d (dl (ka1 a z ([] : List Int)) (ka0 (ka1 a z ([] : List Int)))), .call [0] (bV false) [(0, some (63, (bM k r rn m c s sn)))] 1 [] none] ((kM (z : Int)) ∧ (z < n) ∧ ((ka3 z (kI a))[0]? = some (dl (ka1 a z ([] : List Int)) (ka0 (ka1 a z ([] : List Int))))) ∧ (Fun 130 [.c (.d (dl (ka1 a z ([] : List Int)) (ka0 (ka1 a z ([] : List Int))))), .c (.ptr 0 0)] (kF [(0, some (63, (bM k r rn m c s sn)))]) 1 (bV false) (kF [(0, some (63, (bM k r rn m c s sn)))]) 1)) [(0, qC (kI a) n), (1, .e (.c (.fn 130 [(0, 0)]))), (5, uV z), (7, uV n), (8, uV z), (16, bV false)] ⟨rfl, zo, (bE _ _ zo), (by have h0 := (u6d (ka1 a z ([] : List Int)) (ka0 (ka1 a z ([] : List Int))) k r rn m c s sn rfl zo zo zo (qD : MsW m)); rw [hx3] at h0; exact h0)⟩ ?_
   refine uO ?_
   refine yA [.w, .no] (u3 ((z : Int) + 1)) [(0, qC (kI a) n), (1, .e (.c (.fn 130 [(0, 0)]))), (7, uV n), (8, iV (↑z + 1))] ⟨by omega, by omega⟩ ?_
   exact kW ⟨((z + 1) : Nat), ⟨zo, (v04 hi (by assumption))⟩⟩ [] (P := (kJ (kI a)) ∧ (kG n) ∧ (kM (n : Int)) ∧ (bU z) ∧ (kJ [iD k, dl r rn, D.sl (kI m) c, dl s sn])) zk ⟨rfl, rfl, rfl, (by rfl), rfl⟩ (show n - (z + 1) < n - z from zo)
 ·refine kH [.b false] (¬ ((z : Int) < (n : Int))) [(0, qC (kI a) n), (1, .e (.c (.fn 130 [(0, 0)]))), (7, uV n), (8, uV z), (9, bV false)] [(0, some (63, (bM k r rn m c s sn)))] 1 zo ?_
  refine AW.seq ?_
  refine zf ?_
  refine AW.exit ?_
  refine kH [.no] True [(4, iV (-1))] [(0, some (63, (bM k r rn m c s sn)))] 1 trivial ?_
  refine AW.ret ?_
  exact kA (.inr rfl) [] (P := (((zF a m n) : Int) = (-1)) ∧ (kJ [iD k, dl r rn, D.sl (kI m) c, dl s sn])) zk ⟨(by (rw [show n = z by omega]; exact hi)), rfl⟩
theorem u13 (a : List (List Int)) (n : Nat) (k : Int) (r : List Int) (rn : Nat) (m : List (List Int)) (c : Nat) (s : List Int) (sn : Nat) (hn : ka0 a = n) (h1 : n ≤ 1000000) (hA : MsW a) (hc : ka0 m = c) (h3 : c ≤ 1000000) (hW : MsW m) : Fun 132 [.c (.d (D.sl (kI a) n)), .c (.fn 130 [(0, 0)])] (kF [(0, some (63, .ds [iD k, D.sl (dI .i64 r) rn, D.sl (kI m) c, D.sl (dI .i64 s) sn]))]) 1 (uW (D.lit (.bool (sgB a m)))) (kF [(0, some (63, .ds [iD k, D.sl (dI .i64 r) rn, D.sl (kI m) c, D.sl (dI .i64 s) sn]))]) 1 := by
 refine Fun.mk (n := 9) Tryz.func132 rfl rfl (ka4 rfl) ?_
 intro cx hcx
 refine kH [.no] True [(0, qC (kI a) n), (1, .e (.c (.fn 130 [(0, 0)])))] [(0, some (63, .ds [iD k, dl r rn, D.sl (kI m) c, dl s sn]))] 1 trivial ?_
 by_cases hx1 : ((0 : Int) ≤ (zF a m n))
 ·refine kS [.no, .no, .call [0] (iV (zF a m n)) [(0, some (63, .ds [iD k, dl r rn, D.sl (kI m) c, dl s sn]))] 1 [] none, .b true, .no] ((_) ∧ (((0 : Int) ≤ (zF a m n)))) [(4, bV true)] ⟨(u6c a n k r rn m c s sn zo zo (qD : MsW a) zo zo (qD : MsW m)), zo⟩ ?_
  refine AW.ret ?_
  exact kA (.inr rfl) [] (P := ((sgB a m) = true) ∧ (kJ [iD k, dl r rn, D.sl (kI m) c, dl s sn])) zk ⟨(by exact v4g hn zo), rfl⟩
 ·refine kS [.no, .no, .call [0] (iV (zF a m n)) [(0, some (63, .ds [iD k, dl r rn, D.sl (kI m) c, dl s sn]))] 1 [] none, .b false, .no] ((_) ∧ (¬ ((0 : Int) ≤ (zF a m n)))) [(4, bV false)] ⟨(u6c a n k r rn m c s sn zo zo (qD : MsW a) zo zo (qD : MsW m)), zo⟩ ?_
  refine AW.ret ?_
  exact kA (.inr rfl) [] (P := ((sgB a m) = false) ∧ (kJ [iD k, dl r rn, D.sl (kI m) c, dl s sn])) zk ⟨(by exact v4h hn zo), rfl⟩
abbrev c6 (k2 : Int) (r2 : List Int) (rn2 : Nat) (m2 : List (List Int)) (c2 : Nat) (s2 : List Int) (sn2 : Nat) : BC := .ds [iD k2, D.sl (dI .i64 r2) rn2, D.sl (kI m2) c2, D.sl (dI .i64 s2) sn2]
theorem k4s (k : Int) (r : List Int) (rn : Nat) (m : List (List Int)) (c : Nat) (s : List Int) (sn : Nat) (k2 : Int) (r2 : List Int) (rn2 : Nat) (m2 : List (List Int)) (c2 : Nat) (s2 : List Int) (sn2 : Nat) (hr : ka0 r = rn * 2) (hs : ka0 s = sn * 2) (hc : ka0 m = c) (h1 : rn ≤ 1000000) (h2 : sn ≤ 1000000) (h3 : c ≤ 1000000) (hW : MsW m) (hr2 : ka0 r2 = rn2 * 2) (hs2 : ka0 s2 = sn2 * 2) (hc2 : ka0 m2 = c2) (h12 : rn2 ≤ 1000000) (h22 : sn2 ≤ 1000000) (h32 : c2 ≤ 1000000) (hW2 : MsW m2) : Fun 93 [.agg [iC k, .d (D.sl (dI .i64 r) rn), .d (D.sl (kI m) c), .d (D.sl (dI .i64 s) sn)], .agg [iC k2, .d (D.sl (dI .i64 r2) rn2), .d (D.sl (kI m2) c2), .d (D.sl (dI .i64 s2) sn2)]] (kF []) 0 (uW (D.lit (.bool (oE k r rn m s sn k2 r2 rn2 m2 s2 sn2)))) (kF []) 0 := by
 refine Fun.mk (n := 34) Tryz.func93 rfl rfl (ka4 rfl) ?_
 intro cx hcx
 refine kH [.no, .no, .no] True [(2, rV 0 0), (3, rV 1 0)] [(0, some (63, .ds [iD k, dl r rn, D.sl (kI m) c, dl s sn])), (1, some (63, (c6 k2 r2 rn2 m2 c2 s2 sn2)))] 2 trivial ?_
 refine kS [.no, .no] True [(2, rV 0 0), (3, rV 1 0), (5, .e (.c (.fn 130 [(1, 0)])))] trivial ?_
 by_cases hx1 : ((oM k k2) = 0)
 ·rcases ka9 (xF (kB r rn) (kB r2 rn2)) with hx2 | hx2
  ·rcases ka9 (sgB m m2) with hx3 | hx3
   ·refine kH (qE 4 (.i (oM k k2) :: .b true :: qE 5 (.call [] (bV true) [] 0 [] none :: qE 5 (.call [1] (bV true) [(0, some (63, (c6 k2 r2 rn2 m2 c2 s2 sn2)))] 1 [] none :: qE 5 [])))) ((qF .andNot .i64 k k2 = (oM k k2)) ∧ (((oM k k2) = 0)) ∧ (Fun 131 [.agg [.d (dl r rn)], .agg [.d (dl r2 rn2)]] (kF []) 0 (bV true) (kF []) 0) ∧ (Fun 132 [.c (.d (D.sl (kI m) c)), .c (.fn 130 [(0, 0)])] (kF [(0, some (63, (c6 k2 r2 rn2 m2 c2 s2 sn2)))]) 1 (bV true) (kF [(0, some (63, (c6 k2 r2 rn2 m2 c2 s2 sn2)))]) 1)) [(4, bV false)] [] 2 ⟨rfl, zo, (by have h0 := (dR r r2 rn rn2 zo zo zo zo); rw [hx2] at h0; exact h0), (by have h0 := (u13 m c k2 r2 rn2 m2 c2 s2 sn2 zo zo (qD : MsW m) zo zo (qD : MsW m2)); rw [hx3] at h0; exact h0)⟩ ?_
    refine AW.ret ?_
    exact kA (.inr rfl) [] (P := ((oE k r rn m s sn k2 r2 rn2 m2 s2 sn2) = false)) zk (by exact v5b (by assumption))
   ·rcases ka9 (xF (kB s sn) (kB s2 sn2)) with hx4 | hx4
    ·refine kH (qE 4 (.i (oM k k2) :: .b true :: qE 5 (.call [] (bV true) [] 0 [] none :: qE 5 (.call [1] (bV false) [(0, some (63, (c6 k2 r2 rn2 m2 c2 s2 sn2)))] 1 [] none :: qE 7 [.call [] (bV true) [] 0 [] none, .no, .no])))) ((qF .andNot .i64 k k2 = (oM k k2)) ∧ (((oM k k2) = 0)) ∧ (Fun 131 [.agg [.d (dl r rn)], .agg [.d (dl r2 rn2)]] (kF []) 0 (bV true) (kF []) 0) ∧ (Fun 132 [.c (.d (D.sl (kI m) c)), .c (.fn 130 [(0, 0)])] (kF [(0, some (63, (c6 k2 r2 rn2 m2 c2 s2 sn2)))]) 1 (bV false) (kF [(0, some (63, (c6 k2 r2 rn2 m2 c2 s2 sn2)))]) 1) ∧ (Fun 131 [.agg [.d (dl s sn)], .agg [.d (dl s2 sn2)]] (kF []) 0 (bV true) (kF []) 0)) [(4, bV true)] [] 2 ⟨rfl, zo, (by have h0 := (dR r r2 rn rn2 zo zo zo zo); rw [hx2] at h0; exact h0), (by have h0 := (u13 m c k2 r2 rn2 m2 c2 s2 sn2 zo zo (qD : MsW m) zo zo (qD : MsW m2)); rw [hx3] at h0; exact h0), (by have h0 := (dR s s2 sn sn2 zo zo zo zo); rw [hx4] at h0; exact h0)⟩ ?_
     refine AW.ret ?_
     exact kA (.inr rfl) [] (P := ((oE k r rn m s sn k2 r2 rn2 m2 s2 sn2) = true)) zk (by exact v58 zo (by assumption) (by assumption) (by assumption))
    ·refine kH (qE 4 (.i (oM k k2) :: .b true :: qE 5 (.call [] (bV true) [] 0 [] none :: qE 5 (.call [1] (bV false) [(0, some (63, (c6 k2 r2 rn2 m2 c2 s2 sn2)))] 1 [] none :: qE 7 [.call [] (bV false) [] 0 [] none, .no, .no])))) ((qF .andNot .i64 k k2 = (oM k k2)) ∧ (((oM k k2) = 0)) ∧ (Fun 131 [.agg [.d (dl r rn)], .agg [.d (dl r2 rn2)]] (kF []) 0 (bV true) (kF []) 0) ∧ (Fun 132 [.c (.d (D.sl (kI m) c)), .c (.fn 130 [(0, 0)])] (kF [(0, some (63, (c6 k2 r2 rn2 m2 c2 s2 sn2)))]) 1 (bV false) (kF [(0, some (63, (c6 k2 r2 rn2 m2 c2 s2 sn2)))]) 1) ∧ (Fun 131 [.agg [.d (dl s sn)], .agg [.d (dl s2 sn2)]] (kF []) 0 (bV false) (kF []) 0)) [(4, bV false)] [] 2 ⟨rfl, zo, (by have h0 := (dR r r2 rn rn2 zo zo zo zo); rw [hx2] at h0; exact h0), (by have h0 := (u13 m c k2 r2 rn2 m2 c2 s2 sn2 zo zo (qD : MsW m) zo zo (qD : MsW m2)); rw [hx3] at h0; exact h0), (by have h0 := (dR s s2 sn sn2 zo zo zo zo); rw [hx4] at h0; exact h0)⟩ ?_
     refine AW.ret ?_
     exact kA (.inr rfl) [] (P := ((oE k r rn m s sn k2 r2 rn2 m2 s2 sn2) = false)) zk (by exact v59 (by assumption))
  ·refine kH (qE 4 (.i (oM k k2) :: .b true :: qE 5 (.call [] (bV false) [] 0 [] none :: qE 6 []))) ((qF .andNot .i64 k k2 = (oM k k2)) ∧ (((oM k k2) = 0)) ∧ (Fun 131 [.agg [.d (dl r rn)], .agg [.d (dl r2 rn2)]] (kF []) 0 (bV false) (kF []) 0)) [(4, bV false)] [] 2 ⟨rfl, zo, (by have h0 := (dR r r2 rn rn2 zo zo zo zo); rw [hx2] at h0; exact h0)⟩ ?_
   refine AW.ret ?_
   exact kA (.inr rfl) [] (P := ((oE k r rn m s sn k2 r2 rn2 m2 s2 sn2) = false)) zk (by exact v5a (by assumption))
 ·refine kH (qE 4 (.i (oM k k2) :: .b false :: qE 7 [])) ((qF .andNot .i64 k k2 = (oM k k2)) ∧ (¬ ((oM k k2) = 0))) [(4, bV false)] [] 2 ⟨rfl, zo⟩ ?_
  refine AW.ret ?_
  exact kA (.inr rfl) [] (P := ((oE k r rn m s sn k2 r2 rn2 m2 s2 sn2) = false)) zk (by exact v5c zo)
theorem u11 (xs : List Bx) (n i : Nat) (hn : ka0 xs = n) (h1 : n ≤ 1000000) (hW : BsW xs) (hi : i < n) : Fun 61 [.c (.d (D.sl (kN xs) n)), iE ((i : Nat) : Int)] (kF []) 0 (uW (D.lit (.bool (goB xs i)))) (kF []) 0 := by
 refine Fun.mk (n := 40) Tryz.func61 rfl rfl (ka4 rfl) ?_
 intro cx hcx
 refine kH [.no] True [(0, .e (k9 xs n)), (1, uV i)] [] 0 trivial ?_
 refine AW.seq ?_
 refine kS [.no, .no, .no] True [(0, .e (k9 xs n)), (1, uV i), (7, .e (k9 xs n)), (8, uV n), (9, iV 0)] trivial ?_
 refine AW.block ?_
 refine k8 0 hcx (fun (x : {x : Nat // match x with | z => (z ≤ n) ∧ (∀ j, j < z → nZ xs i j = false)}) => match x with | ⟨z, _⟩ => (⟨[(0, .e (k9 xs n)), (1, uV i), (7, .e (k9 xs n)), (8, uV n), (9, uV z)], [], 0⟩ : ES)) (fun x => match x with | ⟨z, _⟩ => n - z) ⟨(0 : Nat), ⟨zo, (fun j hj => absurd hj (Nat.not_lt_zero j))⟩⟩ [] (P := (kJ (kN xs)) ∧ (kG n) ∧ (kM (i : Int)) ∧ (kJ (kN xs)) ∧ (kG n) ∧ (kM (n : Int)) ∧ (kM 0)) zk ⟨rfl, rfl, rfl, rfl, rfl, rfl, rfl⟩ ?_
 rintro ⟨z, hinv0⟩
 obtain ⟨hz, ha⟩ : (z ≤ n) ∧ (∀ j, j < z → nZ xs i j = false) := hinv0
 refine qW (l := [(0, .e (k9 xs n)), (1, uV i), (7, .e (k9 xs n)), (8, uV n), (9, uV z)]) (g := []) (nx := 0) rfl rfl rfl ?_
 by_cases hx1 : (((z : Nat) : Int) < ((n : Nat) : Int))
 ·refine kH [.b true] (((z : Int) < (n : Int))) [(0, .e (k9 xs n)), (1, uV i), (7, .e (k9 xs n)), (8, uV n), (9, uV z), (10, bV true)] [] 0 zo ?_
  refine AW.seq ?_
  refine vL ?_
  refine AW.seq ?_
  refine AW.block ?_
  obtain ⟨hx2, hx3, hx4, hx5, hx6⟩ := BsW.at (qD : BsW xs) (z)
  refine kH [.no, .n z, .ds (yI xs z), .no, .no, .no] ((kM (z : Int)) ∧ (z < n) ∧ (ka5 4 (ka3 (z * 4) (kN xs)) = (yI xs z)) ∧ (((yI xs z) : List D).length = 4)) [(0, .e (k9 xs n)), (1, uV i), (5, uV z), (6, rV 0 0), (7, .e (k9 xs n)), (8, uV n), (9, uV z)] [(0, some (63, .ds (yI xs z)))] 1 ⟨rfl, zo, (vB zo), rfl⟩ ?_
  by_cases hx7 : (((z : Nat) : Int) ≠ ((i : Nat) : Int))
  ·rcases ka9 (oE (kQ xs i) (kY xs i) (kV xs i) (kT xs i) (kX xs i) (kU xs i) (kQ xs z) (kY xs z) (kV xs z) (kT xs z) (kX xs z) (kU xs z)) with hx13 | hx13
   ·by_cases hx19 : (((z : Nat) : Int) < ((i : Nat) : Int))
    ·obtain ⟨hx20, hx21, hx22, hx23, hx24⟩ := BsW.at (qD : BsW xs) (i)
     refine kH [.no, .no, .b true, .no, .no, .no, .n i, .ds (yI xs i), .no, .call [] (bV true) [] 0 [] none, .no, .no, .no, .no, .b true, .no, .no, .no] ((((z : Int) ≠ (i : Int))) ∧ (kM (i : Int)) ∧ (i < n) ∧ (ka5 4 (ka3 (i * 4) (kN xs)) = (yI xs i)) ∧ (((yI xs i) : List D).length = 4) ∧ (Fun 93 [(oA xs i), (oA xs z)] (kF []) 0 (bV true) (kF []) 0) ∧ (((z : Int) < (i : Int)))) [(0, .e (k9 xs n)), (1, uV i), (7, .e (k9 xs n)), (8, uV n), (9, uV z), (38, bV true)] [] 1 ⟨zo, rfl, zo, (vB zo), rfl, (by have h0 := (k4s (kQ xs i) (kY xs i) (kV xs i) (kT xs i) (ka0 (kT xs i)) (kX xs i) (kU xs i) (kQ xs z) (kY xs z) (kV xs z) (kT xs z) (ka0 (kT xs z)) (kX xs z) (kU xs z) zo zo rfl zo zo zo (BsW.ms (qD : BsW xs) _) zo zo rfl zo zo zo (BsW.ms (qD : BsW xs) _)); rw [hx13] at h0; exact h0), zo⟩ ?_
     refine zt ?_
     refine kS [.no] True [(4, bV true)] trivial ?_
     refine AW.ret ?_
     exact kA (.inr rfl) [] (P := ((goB xs i) = true)) zk (by exact v2a (j := z) zo (by exact v5x zo (by assumption) zo))
    ·rcases ka9 (oE (kQ xs z) (kY xs z) (kV xs z) (kT xs z) (kX xs z) (kU xs z) (kQ xs i) (kY xs i) (kV xs i) (kT xs i) (kX xs i) (kU xs i)) with hx30 | hx30
     ·obtain ⟨hx31, hx32, hx33, hx34, hx35⟩ := BsW.at (qD : BsW xs) (i)
      refine kH (.no :: .no :: .b true :: .no :: .no :: .no :: .n i :: .ds (yI xs i) :: .no :: .call [] (bV true) [] 0 [] none :: qE 4 (.b false :: qE 4 [.n i, .ds (yI xs i), .call [] (bV true) [] 0 [] none, .no, .no, .no])) ((((z : Int) ≠ (i : Int))) ∧ (kM (i : Int)) ∧ (i < n) ∧ (ka5 4 (ka3 (i * 4) (kN xs)) = (yI xs i)) ∧ (((yI xs i) : List D).length = 4) ∧ (Fun 93 [(oA xs i), (oA xs z)] (kF []) 0 (bV true) (kF []) 0) ∧ (¬ ((z : Int) < (i : Int))) ∧ (kM (i : Int)) ∧ (i < n) ∧ (ka5 4 (ka3 (i * 4) (kN xs)) = (yI xs i)) ∧ (((yI xs i) : List D).length = 4) ∧ (Fun 93 [(oA xs z), (oA xs i)] (kF []) 0 (bV true) (kF []) 0)) [(0, .e (k9 xs n)), (1, uV i), (7, .e (k9 xs n)), (8, uV n), (9, uV z), (38, bV false)] [] 1 ⟨zo, rfl, zo, (vB zo), rfl, (by have h0 := (k4s (kQ xs i) (kY xs i) (kV xs i) (kT xs i) (ka0 (kT xs i)) (kX xs i) (kU xs i) (kQ xs z) (kY xs z) (kV xs z) (kT xs z) (ka0 (kT xs z)) (kX xs z) (kU xs z) zo zo rfl zo zo zo (BsW.ms (qD : BsW xs) _) zo zo rfl zo zo zo (BsW.ms (qD : BsW xs) _)); rw [hx13] at h0; exact h0), zo, rfl, zo, (vB zo), rfl, (by have h0 := (k4s (kQ xs z) (kY xs z) (kV xs z) (kT xs z) (ka0 (kT xs z)) (kX xs z) (kU xs z) (kQ xs i) (kY xs i) (kV xs i) (kT xs i) (ka0 (kT xs i)) (kX xs i) (kU xs i) zo zo rfl zo zo zo (BsW.ms (qD : BsW xs) _) zo zo rfl zo zo zo (BsW.ms (qD : BsW xs) _)); rw [hx30] at h0; exact h0)⟩ ?_
      refine uO ?_
      refine yA [.w, .no] (u3 ((z : Int) + 1)) [(0, .e (k9 xs n)), (1, uV i), (7, .e (k9 xs n)), (8, uV n), (9, iV (↑z + 1))] ⟨by omega, by omega⟩ ?_
      exact kW ⟨((z + 1) : Nat), ⟨zo, (fun j hj => (Nat.lt_succ_iff_lt_or_eq.1 hj).elim (ha j) (fun e9 => by subst e9; exact v5z (by assumption) zo))⟩⟩ [] (P := (kJ (kN xs)) ∧ (kG n) ∧ (kM (i : Int)) ∧ (kJ (kN xs)) ∧ (kG n) ∧ (kM (n : Int)) ∧ (bU z)) zk ⟨rfl, rfl, rfl, rfl, rfl, rfl, (by rfl)⟩ (show n - (z + 1) < n - z from zo)
     ·obtain ⟨hx36, hx37, hx38, hx39, hx40⟩ := BsW.at (qD : BsW xs) (i)
      refine kH (.no :: .no :: .b true :: .no :: .no :: .no :: .n i :: .ds (yI xs i) :: .no :: .call [] (bV true) [] 0 [] none :: qE 4 (.b false :: qE 4 [.n i, .ds (yI xs i), .call [] (bV false) [] 0 [] none, .no, .no, .no])) ((((z : Int) ≠ (i : Int))) ∧ (kM (i : Int)) ∧ (i < n) ∧ (ka5 4 (ka3 (i * 4) (kN xs)) = (yI xs i)) ∧ (((yI xs i) : List D).length = 4) ∧ (Fun 93 [(oA xs i), (oA xs z)] (kF []) 0 (bV true) (kF []) 0) ∧ (¬ ((z : Int) < (i : Int))) ∧ (kM (i : Int)) ∧ (i < n) ∧ (ka5 4 (ka3 (i * 4) (kN xs)) = (yI xs i)) ∧ (((yI xs i) : List D).length = 4) ∧ (Fun 93 [(oA xs z), (oA xs i)] (kF []) 0 (bV false) (kF []) 0)) [(0, .e (k9 xs n)), (1, uV i), (7, .e (k9 xs n)), (8, uV n), (9, uV z), (38, bV true)] [] 1 ⟨zo, rfl, zo, (vB zo), rfl, (by have h0 := (k4s (kQ xs i) (kY xs i) (kV xs i) (kT xs i) (ka0 (kT xs i)) (kX xs i) (kU xs i) (kQ xs z) (kY xs z) (kV xs z) (kT xs z) (ka0 (kT xs z)) (kX xs z) (kU xs z) zo zo rfl zo zo zo (BsW.ms (qD : BsW xs) _) zo zo rfl zo zo zo (BsW.ms (qD : BsW xs) _)); rw [hx13] at h0; exact h0), zo, rfl, zo, (vB zo), rfl, (by have h0 := (k4s (kQ xs z) (kY xs z) (kV xs z) (kT xs z) (ka0 (kT xs z)) (kX xs z) (kU xs z) (kQ xs i) (kY xs i) (kV xs i) (kT xs i) (ka0 (kT xs i)) (kX xs i) (kU xs i) zo zo rfl zo zo zo (BsW.ms (qD : BsW xs) _) zo zo rfl zo zo zo (BsW.ms (qD : BsW xs) _)); rw [hx30] at h0; exact h0)⟩ ?_
      refine zt ?_
      refine kS [.no] True [(4, bV true)] trivial ?_
      refine AW.ret ?_
      exact kA (.inr rfl) [] (P := ((goB xs i) = true)) zk (by exact v2a (j := z) zo (by exact v5w zo (by assumption) (by assumption)))
   ·obtain ⟨hx41, hx42, hx43, hx44, hx45⟩ := BsW.at (qD : BsW xs) (i)
    refine kH [.no, .no, .b true, .no, .no, .no, .n i, .ds (yI xs i), .no, .call [] (bV false) [] 0 [] none, .no, .no, .no] ((((z : Int) ≠ (i : Int))) ∧ (kM (i : Int)) ∧ (i < n) ∧ (ka5 4 (ka3 (i * 4) (kN xs)) = (yI xs i)) ∧ (((yI xs i) : List D).length = 4) ∧ (Fun 93 [(oA xs i), (oA xs z)] (kF []) 0 (bV false) (kF []) 0)) [(0, .e (k9 xs n)), (1, uV i), (7, .e (k9 xs n)), (8, uV n), (9, uV z), (38, bV false)] [] 1 ⟨zo, rfl, zo, (vB zo), rfl, (by have h0 := (k4s (kQ xs i) (kY xs i) (kV xs i) (kT xs i) (ka0 (kT xs i)) (kX xs i) (kU xs i) (kQ xs z) (kY xs z) (kV xs z) (kT xs z) (ka0 (kT xs z)) (kX xs z) (kU xs z) zo zo rfl zo zo zo (BsW.ms (qD : BsW xs) _) zo zo rfl zo zo zo (BsW.ms (qD : BsW xs) _)); rw [hx13] at h0; exact h0)⟩ ?_
    refine uO ?_
    refine yA [.w, .no] (u3 ((z : Int) + 1)) [(0, .e (k9 xs n)), (1, uV i), (7, .e (k9 xs n)), (8, uV n), (9, iV (↑z + 1))] ⟨by omega, by omega⟩ ?_
    exact kW ⟨((z + 1) : Nat), ⟨zo, (fun j hj => (Nat.lt_succ_iff_lt_or_eq.1 hj).elim (ha j) (fun e9 => by subst e9; exact v5y (by assumption)))⟩⟩ [] (P := (kJ (kN xs)) ∧ (kG n) ∧ (kM (i : Int)) ∧ (kJ (kN xs)) ∧ (kG n) ∧ (kM (n : Int)) ∧ (bU z)) zk ⟨rfl, rfl, rfl, rfl, rfl, rfl, (by rfl)⟩ (show n - (z + 1) < n - z from zo)
  ·refine kH (.no :: .no :: .b false :: qE 4 []) (¬ ((z : Int) ≠ (i : Int))) [(0, .e (k9 xs n)), (1, uV i), (7, .e (k9 xs n)), (8, uV n), (9, uV z), (38, bV false)] [] 1 zo ?_
   refine uO ?_
   refine yA [.w, .no] (u3 ((z : Int) + 1)) [(0, .e (k9 xs n)), (1, uV i), (7, .e (k9 xs n)), (8, uV n), (9, iV (↑z + 1))] ⟨by omega, by omega⟩ ?_
   exact kW ⟨((z + 1) : Nat), ⟨zo, (fun j hj => (Nat.lt_succ_iff_lt_or_eq.1 hj).elim (ha j) (fun e9 => by subst e9; exact u85 zo))⟩⟩ [] (P := (kJ (kN xs)) ∧ (kG n) ∧ (kM (i : Int)) ∧ (kJ (kN xs)) ∧ (kG n) ∧ (kM (n : Int)) ∧ (bU z)) zk ⟨rfl, rfl, rfl, rfl, rfl, rfl, (by rfl)⟩ (show n - (z + 1) < n - z from zo)
 ·refine kH [.b false] (¬ ((z : Int) < (n : Int))) [(0, .e (k9 xs n)), (1, uV i), (7, .e (k9 xs n)), (8, uV n), (9, uV z), (10, bV false)] [] 0 zo ?_
  refine AW.seq ?_
  refine zf ?_
  refine AW.exit ?_
  refine kH [.no] True [(4, bV false)] [] 0 trivial ?_
  refine AW.ret ?_
  exact kA (.inr rfl) [] (P := ((goB xs i) = false)) zk (by exact v2b (fun j hj => ha j zo))
theorem p9 {p : Prop} (h : p := by rw [kd3, kb7 (by (simp only [qB, qA, qQ, ka8, kb0, kb2, kb4, kb6, kb5, kc1, kc3, kc0, kc6] <;> omega))]) : p := h
theorem aR {p : Prop} (h : p := by (simp only [qB, qA, qQ, ka8, kb0, kb2, kb4, kb6, kb5, kc1, kc3, kc0, kc6] <;> omega)) : p := h
theorem u12 (l : List Int) (n : Nat) (hl : ka0 l = n * 2) (hb : n ≤ 1000000) : Fun 94 [.agg [.d (D.sl (dI .i64 l) n)]] (kF []) 0 (.e (.agg [.d (D.sl (dI .i64 l) n)])) (kF []) 0 := by
 refine Fun.mk (n := 7) Tryz.func94 rfl rfl (ka4 rfl) ?_
 intro cx hcx
 refine kH [.no, .no] True [(1, rV 0 0), (2, rV 1 0)] [(0, some (60, .ds [dl l n])), (1, some (60, .ds [qI]))] 2 trivial ?_
 refine kH [.no, .no, .call [] (oV 0 0 n 2) [(0, some (95, .ds (dI .i64 l)))] 1 [] none, .no, .no] _ [(2, rV 1 0)] [(1, some (60, .cs [.own 2 0 n 2 true])), (2, some (95, .ds (dI .i64 l)))] 3 (u3w l n zo zo) ?_
 refine AW.freeze 2 (l' := [(2, rV 1 0)]) (g' := [(1, some (60, .ds [dl l n]))]) rfl (FzS.cons rfl (.same _) FzS.nil) (FzG.to (bc := .cs [.own 2 0 n 2 true]) rfl (by rfl) (FzL.cons (@FzC.own 2 ((dI .i64 l) : List D) 0 n 2 true ((dI .i64 l) : List D) p9 aR) FzL.nil) FzG.nil) ?_
 refine AW.ret ?_
 exact kA (.inr rfl) [] (P := (kJ (dI .i64 l)) ∧ (kG n)) zk ⟨rfl, rfl⟩
theorem u3x (m : List (List Int)) (c : Nat) (hc : ka0 m = c) (h3 : c ≤ 1000000) (hW : MsW m) : Fun 95 [.c (.d (D.sl (kI m) c)), .c (.fn 96 [])] (kF []) 0 (qC (kI m) c) (kF []) 0 := by
 refine Fun.mk (n := 22) Tryz.func95 rfl rfl (ka4 rfl) ?_
 intro cx hcx
 refine kH [.no] True [(0, qC (kI m) c), (1, .e (.c (.fn 96 [])))] [] 0 trivial ?_
 refine kS [.no] True [(0, qC (kI m) c), (1, .e (.c (.fn 96 []))), (5, nV)] trivial ?_
 refine AW.seq ?_
 refine kS [.no, .no, .no] True [(1, .e (.c (.fn 96 []))), (5, nV), (8, qC (kI m) c), (9, uV c), (10, iV 0)] trivial ?_
 refine AW.block ?_
 refine AW.adoptS 5 1 38 rfl ?_
 refine k8 0 hcx (fun (x : {x : Nat // match x with | z => (z ≤ c)}) => match x with | ⟨z, _⟩ => (⟨[(1, .e (.c (.fn 96 []))), (5, oV 1 0 z 1), (8, qC (kI m) c), (9, uV c), (10, uV z)], [(1, some (38, .ds (kI (ka5 z m))))], 2⟩ : ES)) (fun x => match x with | ⟨z, _⟩ => c - z) ⟨(0 : Nat), (show ((0 : Nat) ≤ c) from zo)⟩ [(1, 0)] (P := (kG 0) ∧ (kG 0) ∧ (kJ (kI m)) ∧ (kG c) ∧ (kM (c : Int)) ∧ (kM 0) ∧ (((kI (ka5 0 m)) : List D) = ([] : List D))) zk ⟨rfl, rfl, rfl, rfl, rfl, rfl, (by rfl)⟩ ?_
 rintro ⟨z, hinv0⟩
 have hz : (z ≤ c) := hinv0
 refine qW (l := [(1, .e (.c (.fn 96 []))), (5, oV 1 0 z 1), (8, qC (kI m) c), (9, uV c), (10, uV z)]) (g := [(1, some (38, .ds (kI (ka5 z m))))]) (nx := 2) rfl rfl rfl ?_
 by_cases hx1 : (((z : Nat) : Int) < ((c : Nat) : Int))
 ·refine kH [.b true] (((z : Int) < (c : Int))) [(1, .e (.c (.fn 96 []))), (5, oV 1 0 z 1), (8, qC (kI m) c), (9, uV c), (10, uV z), (11, bV true)] [(1, some (38, .ds (kI (ka5 z m))))] 2 zo ?_
  refine AW.seq ?_
  refine vL ?_
  refine AW.seq ?_
  refine AW.block ?_
  have hx2 : ((ka0 (ka1 m z ([] : List Int))) ≤ 1000000) := MsW.at (qD : MsW m) _
  refine kS [.n z, .d (dl (ka1 m z ([] : List Int)) (ka0 (ka1 m z ([] : List Int)))), .no] ((kM (z : Int)) ∧ (z < c) ∧ ((ka3 z (kI m))[0]? = some (dl (ka1 m z ([] : List Int)) (ka0 (ka1 m z ([] : List Int)))))) [(1, .e (.c (.fn 96 []))), (5, oV 1 0 z 1), (7, sV .i64 (ka1 m z ([] : List Int)) (ka0 (ka1 m z ([] : List Int)))), (8, qC (kI m) c), (9, uV c), (10, uV z)] ⟨rfl, zo, (bE _ _ zo)⟩ ?_
  refine aC [.no, .no, .no, (.fz (.call [] (oV 0 0 (ka0 (ka1 m z ([] : List Int))) 1) [(0, some (3, .ds (dI .i64 (ka1 m z ([] : List Int)))))] 1 [] none)), .no, .ap none (z + 1) (kI ((ka5 z m) ++ ([(ka1 m z ([] : List Int))] : List (List Int)))), .no] ((_) ∧ (((dI .i64 (ka1 m z ([] : List Int))) : List D).length = (ka0 (ka1 m z ([] : List Int))) * 1) ∧ ([dl (ka1 m z ([] : List Int)) (ka0 (ka1 m z ([] : List Int)))].length = 1 * 1) ∧ (((kI (ka5 z m)) : List D).length = z * 1) ∧ ((z + 1) * 24 ≤ 140737488355328) ∧ (z + 1 = (z + 1)) ∧ (((kI (ka5 z m)) : List D) ++ [dl (ka1 m z ([] : List Int)) (ka0 (ka1 m z ([] : List Int)))] = (kI ((ka5 z m) ++ ([(ka1 m z ([] : List Int))] : List (List Int)))))) [(1, .e (.c (.fn 96 []))), (5, oV 4 0 (z + 1) 1), (8, qC (kI m) c), (9, uV c), (10, uV z)] [(4, some (38, .ds (kI ((ka5 z m) ++ ([(ka1 m z ([] : List Int))] : List (List Int))))))] 5 ⟨(c5 (ka1 m z ([] : List Int)) (ka0 (ka1 m z ([] : List Int))) rfl zo), aR, aR, aR, zo, zo, (sA (ka5 z m) (ka1 m z ([] : List Int)) (ka0 (ka1 m z ([] : List Int))) (by rfl))⟩ ?_
  refine yA [.w, .no] (u3 ((z : Int) + 1)) [(1, .e (.c (.fn 96 []))), (5, oV 4 0 (z + 1) 1), (8, qC (kI m) c), (9, uV c), (10, iV (↑z + 1))] ⟨by omega, by omega⟩ ?_
  exact kW ⟨((z + 1) : Nat), (show ((z + 1) ≤ c) from zo)⟩ [(1, 4)] (P := (kG 0) ∧ (kG (z + 1)) ∧ (kJ (kI m)) ∧ (kG c) ∧ (kM (c : Int)) ∧ (bU z) ∧ (((kI (ka5 (z + 1) m)) : List D) = (kI ((ka5 z m) ++ ([(ka1 m z ([] : List Int))] : List (List Int)))))) zk ⟨rfl, rfl, rfl, rfl, rfl, (by rfl), (by (rw [u1z (by omega)]))⟩ (show c - (z + 1) < c - z from zo)
 ·refine kH [.b false] (¬ ((z : Int) < (c : Int))) [(1, .e (.c (.fn 96 []))), (5, oV 1 0 z 1), (8, qC (kI m) c), (9, uV c), (10, uV z), (11, bV false)] [(1, some (38, .ds (kI (ka5 z m))))] 2 zo ?_
  refine AW.seq ?_
  refine zf ?_
  refine AW.exit ?_
  refine kH [.no, .no] True [(4, oV 1 0 z 1)] [(1, some (38, .ds (kI (ka5 z m))))] 2 trivial ?_
  refine AW.freeze 1 (l' := [(4, qC (kI (ka5 z m)) z)]) (g' := []) rfl (FzS.cons rfl (.e (.c (@FzC.own 1 ((kI (ka5 z m)) : List D) 0 z 1 true ((kI (ka5 z m)) : List D) (by rw [kd3, kc6, kb7 (by (simp only [qB, qA, qQ, ka8, kb0, kb2, kb4, kb6, kb5, kc1, kc3, kc0, kc6] <;> omega))]) aR))) FzS.nil) FzG.nil ?_
  have hz1 : ka5 z m = m := kb7 (by omega)
  refine AW.ret ?_
  exact kA (.inr rfl) [] (P := (((kI m) : List D) = (kI (ka5 z m))) ∧ ((c : Nat) = z)) zk ⟨(by (rw [hz1]; done)), zo⟩
abbrev u6x : BC := .ds [iD 0, D.lit (.slice none 0 0), D.lit (.slice none 0 0), D.lit (.slice none 0 0)]
theorem u98 (k : Int) (r : List Int) (rn : Nat) (m : List (List Int)) (c : Nat) (s : List Int) (sn : Nat) (hr : ka0 r = rn * 2) (hs : ka0 s = sn * 2) (hc : ka0 m = c) (h1 : rn ≤ 1000000) (h2 : sn ≤ 1000000) (h3 : c ≤ 1000000) (hW : MsW m) : Fun 62 [.agg [iC k, .d (D.sl (dI .i64 r) rn), .d (D.sl (kI m) c), .d (D.sl (dI .i64 s) sn)]] (kF []) 0 (.e (.agg [iC k, .d (D.sl (dI .i64 r) rn), .d (D.sl (kI m) c), .d (D.sl (dI .i64 s) sn)])) (kF []) 0 := by
 refine Fun.mk (n := 16) Tryz.func62 rfl rfl (ka4 rfl) ?_
 intro cx hcx
 refine kH [.no, .no] True [(1, rV 0 0), (2, rV 1 0)] [(0, some (63, .ds [iD k, dl r rn, D.sl (kI m) c, dl s sn])), (1, some (63, u6x))] 2 trivial ?_
 refine kS [.no, .no, .call [] (.e (.agg [.d (dl r rn)])) [] 0 [] none, .no, .no] _ [(1, rV 0 0), (2, rV 1 0)] (u12 r rn zo zo) ?_
 refine kS [.no, .no, .call [] (qC (kI m) c) [] 0 [] none, .no, .no] _ [(1, rV 0 0), (2, rV 1 0)] (u3x m c zo zo (qD : MsW m)) ?_
 refine kS [.no, .no, .call [] (.e (.agg [.d (dl s sn)])) [] 0 [] none, .no, .no] _ [(1, rV 0 0), (2, rV 1 0)] (u12 s sn zo zo) ?_
 refine kH [.no, .no] True [(2, rV 1 0)] [(1, some (63, .ds [iD k, dl r rn, D.sl (kI m) c, dl s sn]))] 2 trivial ?_
 refine AW.ret ?_
 exact kA (.inr rfl) [] (P := (kM k) ∧ (kJ (dI .i64 r)) ∧ (kG rn) ∧ (kJ (kI m)) ∧ (kG c) ∧ (kJ (dI .i64 s)) ∧ (kG sn)) zk ⟨rfl, rfl, rfl, rfl, rfl, rfl, rfl⟩
theorem zV {p : Prop} (h : p := by (simp only [qB, qA, ka8, kb0, kb2] <;> omega)) : p := h
abbrev u1i (xs : List Bx) (i : Nat) : BC := .ds [iD (kQ xs i), D.sl (dI .i64 (kY xs i)) (kV xs i), D.sl (kI (kT xs i)) (ka0 (kT xs i)), D.sl (dI .i64 (kX xs i)) (kU xs i)]
theorem u10 (xs : List Bx) (n : Nat) (hn : ka0 xs = n) (h1 : n ≤ 1000000) (hW : BsW xs) : Fun 32 [.c (.d (D.sl (kN xs) n))] (kF []) 0 (.tup [.c (.d (D.sl (kN (bD xs)) (ka0 (bD xs)))), iE (jB xs)]) (kF []) 0 := by
 refine Fun.mk (n := 28) Tryz.func32 rfl rfl (ka4 rfl) ?_
 intro cx hcx
 refine kH [.no, .no] True [(0, .e (k9 xs n))] [] 0 trivial ?_
 refine AW.seq ?_
 rcases ka9 (cF xs) with hx1 | hx1
 ·refine kS [.no, .call [] (bV true) [] 0 [] none, .no] (Fun 60 [.c (.d (D.sl (kN xs) n))] (kF []) 0 (bV true) (kF []) 0) [(0, .e (k9 xs n)), (9, bV false)] (by have h0 := (vY xs n zo zo (qD : BsW xs)); rw [hx1] at h0; exact h0) ?_
  refine uO ?_
  refine kS [.no] True [(0, .e (k9 xs n)), (4, nV)] trivial ?_
  refine AW.seq ?_
  refine kS [.no, .no, .no] True [(0, .e (k9 xs n)), (4, nV), (10, .e (k9 xs n)), (11, uV n), (12, iV 0)] trivial ?_
  refine AW.block ?_
  refine AW.adoptS 4 4 63 rfl ?_
  refine k8 0 hcx (fun (x : {x : Nat × Nat × List Bx // match x with | (i, q, o) => (i ≤ n ∧ q ≤ i) ∧ (oZ xs i = o) ∧ (ka0 o = q)}) => match x with | ⟨(i, q, o), _⟩ => (⟨[(0, .e (k9 xs n)), (4, oV 1 0 q 4), (10, .e (k9 xs n)), (11, uV n), (12, uV i)], [(1, some (63, .ds (kN o)))], 2⟩ : ES)) (fun x => match x with | ⟨(i, q, o), _⟩ => n - i) ⟨((0 : Nat), (0 : Nat), (([] : List Bx) : List Bx)), ⟨zo, rfl, rfl⟩⟩ [(1, 0)] (P := (kJ (kN xs)) ∧ (kG n) ∧ (kG 0) ∧ (kG 0) ∧ (kJ (kN xs)) ∧ (kG n) ∧ (kM (n : Int)) ∧ (kM 0) ∧ (((kN ([] : List Bx)) : List D) = ([] : List D))) zk ⟨rfl, rfl, rfl, rfl, rfl, rfl, rfl, rfl, (by rfl)⟩ ?_
  rintro ⟨⟨i, q, o⟩, hinv0⟩
  obtain ⟨hi, ho, hq⟩ : (i ≤ n ∧ q ≤ i) ∧ (oZ xs i = o) ∧ (ka0 o = q) := hinv0
  refine qW (l := [(0, .e (k9 xs n)), (4, oV 1 0 q 4), (10, .e (k9 xs n)), (11, uV n), (12, uV i)]) (g := [(1, some (63, .ds (kN o)))]) (nx := 2) rfl rfl rfl ?_
  by_cases hx2 : (((i : Nat) : Int) < ((n : Nat) : Int))
  ·refine kH [.b true] (((i : Int) < (n : Int))) [(0, .e (k9 xs n)), (4, oV 1 0 q 4), (10, .e (k9 xs n)), (11, uV n), (12, uV i), (13, bV true)] [(1, some (63, .ds (kN o)))] 2 zo ?_
   refine AW.seq ?_
   refine vL ?_
   refine AW.seq ?_
   refine AW.block ?_
   obtain ⟨hx3, hx4, hx5, hx6, hx7⟩ := BsW.at (qD : BsW xs) (i)
   refine kH [.no, .n i, .ds (yI xs i), .no, .no, .no] ((kM (i : Int)) ∧ (i < n) ∧ (ka5 4 (ka3 (i * 4) (kN xs)) = (yI xs i)) ∧ (((yI xs i) : List D).length = 4)) [(0, .e (k9 xs n)), (4, oV 1 0 q 4), (5, uV i), (6, rV 2 0), (10, .e (k9 xs n)), (11, uV n), (12, uV i)] [(1, some (63, .ds (kN o))), (2, some (63, (u1i xs i)))] 3 ⟨rfl, zo, (vB zo), rfl⟩ ?_
   rcases ka9 (goB xs i) with hx8 | hx8
   ·refine kS [.no, .no, .call [] (bV true) [] 0 [] none, .no] (Fun 61 [.c (.d (D.sl (kN xs) n)), uE i] (kF []) 0 (bV true) (kF []) 0) [(0, .e (k9 xs n)), (4, oV 1 0 q 4), (6, rV 2 0), (10, .e (k9 xs n)), (11, uV n), (12, uV i), (20, bV false)] (by have h0 := (u11 xs n i zo zo (qD : BsW xs) zo); rw [hx8] at h0; exact h0) ?_
    refine uO ?_
    refine aC [.w, .no] (u3 ((i : Int) + 1)) [(0, .e (k9 xs n)), (4, oV 1 0 q 4), (10, .e (k9 xs n)), (11, uV n), (12, iV (↑i + 1))] [(1, some (63, .ds (kN o)))] 3 ⟨by omega, by omega⟩ ?_
    exact kW ⟨(((i + 1) : Nat), (q : Nat), (o : List Bx)), ⟨zo, (by exact v4m ho (by assumption)), zo⟩⟩ [] (P := (kJ (kN xs)) ∧ (kG n) ∧ (kG 0) ∧ (kG q) ∧ (kJ (kN xs)) ∧ (kG n) ∧ (kM (n : Int)) ∧ (bU i) ∧ (kJ (kN o))) zk ⟨rfl, rfl, rfl, rfl, rfl, rfl, rfl, (by rfl), rfl⟩ (show n - (i + 1) < n - i from zo)
   ·refine kS [.no, .no, .call [] (bV false) [] 0 [] none, .no] (Fun 61 [.c (.d (D.sl (kN xs) n)), uE i] (kF []) 0 (bV false) (kF []) 0) [(0, .e (k9 xs n)), (4, oV 1 0 q 4), (6, rV 2 0), (10, .e (k9 xs n)), (11, uV n), (12, uV i), (20, bV true)] (by have h0 := (u11 xs n i zo zo (qD : BsW xs) zo); rw [hx8] at h0; exact h0) ?_
    refine zt ?_
    refine aC [.no, .no, .call [] (.e ((oA xs i))) [] 0 [] none, .no, .ap none (q + 1) (kN (o ++ ([(kE (kQ xs i) (kY xs i) (kV xs i) (kT xs i) (kX xs i) (kU xs i))] : List Bx))), .no] ((_) ∧ ((yI xs i).length = 1 * 4) ∧ (((kN o) : List D).length = q * 4) ∧ ((q + 1) * 80 ≤ 140737488355328) ∧ (q + 1 = (q + 1)) ∧ (((kN o) : List D) ++ (yI xs i) = (kN (o ++ ([(kE (kQ xs i) (kY xs i) (kV xs i) (kT xs i) (kX xs i) (kU xs i))] : List Bx))))) [(0, .e (k9 xs n)), (4, oV 4 0 (q + 1) 4), (10, .e (k9 xs n)), (11, uV n), (12, uV i)] [(4, some (63, .ds (kN (o ++ ([(kE (kQ xs i) (kY xs i) (kV xs i) (kT xs i) (kX xs i) (kU xs i))] : List Bx)))))] 5 ⟨(u98 (kQ xs i) (kY xs i) (kV xs i) (kT xs i) (ka0 (kT xs i)) (kX xs i) (kU xs i) zo zo rfl zo zo zo (BsW.ms (qD : BsW xs) _)), aR, aR, zo, zo, (iW o (kQ xs i) (kY xs i) (kV xs i) (kT xs i) (ka0 (kT xs i)) (kX xs i) (kU xs i) (by rfl))⟩ ?_
    refine yA [.w, .no] (u3 ((i : Int) + 1)) [(0, .e (k9 xs n)), (4, oV 4 0 (q + 1) 4), (10, .e (k9 xs n)), (11, uV n), (12, iV (↑i + 1))] ⟨by omega, by omega⟩ ?_
    exact kW ⟨(((i + 1) : Nat), ((q + 1) : Nat), ((o ++ ([(kE (kQ xs i) (kY xs i) (kV xs i) (kT xs i) (kX xs i) (kU xs i))] : List Bx)) : List Bx)), ⟨zo, (by exact v4n ho (by assumption)), zV⟩⟩ [(1, 4)] (P := (kJ (kN xs)) ∧ (kG n) ∧ (kG 0) ∧ (kG (q + 1)) ∧ (kJ (kN xs)) ∧ (kG n) ∧ (kM (n : Int)) ∧ (bU i) ∧ (kJ (kN (o ++ ([(kE (kQ xs i) (kY xs i) (kV xs i) (kT xs i) (kX xs i) (kU xs i))] : List Bx))))) zk ⟨rfl, rfl, rfl, rfl, rfl, rfl, rfl, (by rfl), rfl⟩ (show n - (i + 1) < n - i from zo)
  ·refine kH [.b false] (¬ ((i : Int) < (n : Int))) [(0, .e (k9 xs n)), (4, oV 1 0 q 4), (10, .e (k9 xs n)), (11, uV n), (12, uV i), (13, bV false)] [(1, some (63, .ds (kN o)))] 2 zo ?_
   refine AW.seq ?_
   refine zf ?_
   refine AW.exit ?_
   refine kH [.no, .no, .no] True [(2, oV 1 0 q 4), (3, iV 0)] [(1, some (63, .ds (kN o)))] 2 trivial ?_
   refine AW.freeze 1 (l' := [(2, .e (k9 o q)), (3, iV 0)]) (g' := []) rfl (FzS.cons rfl (.e (.c (@FzC.own 1 ((kN o) : List D) 0 q 4 true ((kN o) : List D) p9 aR))) (FzS.cons rfl (.same _) FzS.nil)) FzG.nil ?_
   obtain ⟨hz1, hz2⟩ := k5x hx1
   have hz3 : oZ xs (ka0 xs) = o := by have h9 := ho; rw [show i = ka0 xs by omega] at h9; exact h9
   refine AW.ret ?_
   exact kA (.inr rfl) [] (P := (((kN (bD xs)) : List D) = (kN o)) ∧ (((ka0 (bD xs)) : Nat) = q) ∧ (((jB xs) : Int) = 0)) zk ⟨(by (rw [hz1, hz3]; done)), (by (rw [hz1, hz3]; omega)), (by (rw [hz2]; done))⟩
 ·refine kS [.no, .call [] (bV false) [] 0 [] none, .no] (Fun 60 [.c (.d (D.sl (kN xs) n))] (kF []) 0 (bV false) (kF []) 0) [(0, .e (k9 xs n)), (9, bV true)] (by have h0 := (vY xs n zo zo (qD : BsW xs)); rw [hx1] at h0; exact h0) ?_
  refine zt ?_
  refine kS [.no, .no] True [(2, nV), (3, iV 1)] trivial ?_
  obtain ⟨hz1, hz2⟩ := v0q hx1
  refine y6 (l' := [(2, qC ([] : List D) 0), (3, iV 1)]) (g' := []) (NlS.cons rfl (.e (.c .nil)) (NlS.cons rfl (.same _) NlS.nil)) NlG.nil ?_
  refine AW.ret ?_
  exact kA (.inr rfl) [] (P := (((kN (bD xs)) : List D) = ([] : List D)) ∧ (((ka0 (bD xs)) : Nat) = 0) ∧ (((jB xs) : Int) = 1)) zk ⟨(by (rw [hz1]; rfl)), (by (rw [hz1]; rfl)), (by (rw [hz2]; done))⟩
theorem u3y (l : List Int) (n : Nat) (v : Int) (hl : ka0 l = n * 2) (hb : n ≤ 1000000) (hv : -1 ≤ v ∧ v ≤ 2147483647) : Fun 170 [.agg [.d (D.sl (dI .i64 l) n)], iE v] (kF []) 0 (.e (.agg [.d (D.sl (dI .i64 (dQ l v n)) (lH l v n))])) (kF []) 0 := by
 refine Fun.mk (n := 33) Tryz.func170 rfl rfl (ka4 rfl) ?_
 intro cx hcx
 refine kH [.no, .no] True [(1, iV v), (2, rV 0 0), (4, rV 1 0)] [(0, some (60, .ds [dl l n])), (1, some (60, .ds [qI]))] 2 trivial ?_
 refine kS [.no] True [(1, iV v), (2, rV 0 0), (4, rV 1 0), (5, nV)] trivial ?_
 refine AW.seq ?_
 refine kH (qE 4 []) True [(1, iV v), (4, rV 1 0), (5, nV), (9, sV .i64 l n), (10, uV n), (11, iV 0)] [(1, some (60, .ds [qI]))] 2 trivial ?_
 refine AW.block ?_
 refine AW.adoptS 5 2 95 rfl ?_
 refine k8 0 hcx (fun (x : {x : Nat × Nat × List Int // match x with | (k, q, o) => (k ≤ n ∧ q ≤ k) ∧ (dQ l v k = o) ∧ (ka0 o = q * 2)}) => match x with | ⟨(k, q, o), _⟩ => (⟨[(1, iV v), (4, rV 1 0), (5, oV 3 0 q 2), (9, sV .i64 l n), (10, uV n), (11, uV k)], [(1, some (60, .ds [qI])), (3, some (95, .ds (dI .i64 o)))], 4⟩ : ES)) (fun x => match x with | ⟨(k, q, o), _⟩ => n - k) ⟨((0 : Nat), (0 : Nat), (([] : List Int) : List Int)), ⟨zo, rfl, rfl⟩⟩ [(3, 2)] (P := (kM v) ∧ (kG 0) ∧ (kG 0) ∧ (kG 0) ∧ (kJ (dI .i64 l)) ∧ (kG n) ∧ (kM (n : Int)) ∧ (kM 0) ∧ (kJ [qI]) ∧ (((dI .i64 ([] : List Int)) : List D) = ([] : List D))) zk ⟨rfl, rfl, rfl, rfl, rfl, rfl, rfl, rfl, rfl, (by rfl)⟩ ?_
 rintro ⟨⟨k, q, o⟩, hinv0⟩
 obtain ⟨hk, ho, hq⟩ : (k ≤ n ∧ q ≤ k) ∧ (dQ l v k = o) ∧ (ka0 o = q * 2) := hinv0
 refine qW (l := [(1, iV v), (4, rV 1 0), (5, oV 3 0 q 2), (9, sV .i64 l n), (10, uV n), (11, uV k)]) (g := [(1, some (60, .ds [qI])), (3, some (95, .ds (dI .i64 o)))]) (nx := 4) rfl rfl rfl ?_
 by_cases hx1 : (((k : Nat) : Int) < ((n : Nat) : Int))
 ·refine kH [.b true] (((k : Int) < (n : Int))) [(1, iV v), (4, rV 1 0), (5, oV 3 0 q 2), (9, sV .i64 l n), (10, uV n), (11, uV k), (12, bV true)] [(1, some (60, .ds [qI])), (3, some (95, .ds (dI .i64 o)))] 4 zo ?_
  refine AW.seq ?_
  refine vL ?_
  refine AW.seq ?_
  refine AW.block ?_
  refine kH [.n k, .ds [iD (ka1 l (k * 2) 0), iD (ka1 l ((k * 2) + 1) 0)], .no, .no] ((kM (k : Int)) ∧ (k < n) ∧ (ka5 2 (ka3 (k * 2) (dI .i64 l)) = [iD (ka1 l (k * 2) 0), iD (ka1 l ((k * 2) + 1) 0)]) ∧ (([iD (ka1 l (k * 2) 0), iD (ka1 l ((k * 2) + 1) 0)] : List D).length = 2)) [(1, iV v), (4, rV 1 0), (5, oV 3 0 q 2), (7, rV 4 0), (9, sV .i64 l n), (10, uV n), (11, uV k)] [(1, some (60, .ds [qI])), (3, some (95, .ds (dI .i64 o))), (4, some (95, .ds [iD (ka1 l (k * 2) 0), iD (ka1 l ((k * 2) + 1) 0)]))] 5 ⟨rfl, zo, (bP .i64 l (k * 2) 2 zo), rfl⟩ ?_
  by_cases hx2 : (v < (ka1 l ((k * 2) + 1) 0))
  ·refine kS [.no, .no, .no, .b true] ((v < (ka1 l ((k * 2) + 1) 0))) [(1, iV v), (4, rV 1 0), (5, oV 3 0 q 2), (7, rV 4 0), (9, sV .i64 l n), (10, uV n), (11, uV k), (18, bV true)] zo ?_
   refine zt ?_
   refine aC (qE 4 (.w :: qE 5 [.ap none (q + 1) (dI .i64 (o ++ ([(max (ka1 l (k * 2) 0) (v + 1)), (ka1 l ((k * 2) + 1) 0)] : List Int))), .no])) ((u3 (v + 1)) ∧ ([iD (max (ka1 l (k * 2) 0) (v + 1)), iD (ka1 l ((k * 2) + 1) 0)].length = 1 * 2) ∧ (((dI .i64 o) : List D).length = q * 2) ∧ ((q + 1) * 16 ≤ 140737488355328) ∧ (q + 1 = (q + 1)) ∧ (((dI .i64 o) : List D) ++ [iD (max (ka1 l (k * 2) 0) (v + 1)), iD (ka1 l ((k * 2) + 1) 0)] = (dI .i64 (o ++ ([(max (ka1 l (k * 2) 0) (v + 1)), (ka1 l ((k * 2) + 1) 0)] : List Int))))) [(1, iV v), (4, rV 1 0), (5, oV 6 0 (q + 1) 2), (9, sV .i64 l n), (10, uV n), (11, uV k)] [(1, some (60, .ds [qI])), (6, some (95, .ds (dI .i64 (o ++ ([(max (ka1 l (k * 2) 0) (v + 1)), (ka1 l ((k * 2) + 1) 0)] : List Int)))))] 7 ⟨⟨by omega, by omega⟩, aR, aR, zo, zo, (a8 .i64 o ([(max (ka1 l (k * 2) 0) (v + 1)), (ka1 l ((k * 2) + 1) 0)] : List Int))⟩ ?_
   refine yA [.w, .no] (u3 ((k : Int) + 1)) [(1, iV v), (4, rV 1 0), (5, oV 6 0 (q + 1) 2), (9, sV .i64 l n), (10, uV n), (11, iV (↑k + 1))] ⟨by omega, by omega⟩ ?_
   exact kW ⟨(((k + 1) : Nat), ((q + 1) : Nat), ((o ++ ([(max (ka1 l (k * 2) 0) (v + 1)), (ka1 l ((k * 2) + 1) 0)] : List Int)) : List Int)), ⟨zo, (by exact v6n ho zo (by rfl) rfl), zV⟩⟩ [(3, 6)] (P := (kM v) ∧ (kG 0) ∧ (kG 0) ∧ (kG (q + 1)) ∧ (kJ (dI .i64 l)) ∧ (kG n) ∧ (kM (n : Int)) ∧ (bU k) ∧ (kJ [qI]) ∧ (kJ (dI .i64 (o ++ ([(max (ka1 l (k * 2) 0) (v + 1)), (ka1 l ((k * 2) + 1) 0)] : List Int))))) zk ⟨rfl, rfl, rfl, rfl, rfl, rfl, rfl, (by rfl), rfl, rfl⟩ (show n - (k + 1) < n - k from zo)
  ·refine kS [.no, .no, .no, .b false] (¬ (v < (ka1 l ((k * 2) + 1) 0))) [(1, iV v), (4, rV 1 0), (5, oV 3 0 q 2), (7, rV 4 0), (9, sV .i64 l n), (10, uV n), (11, uV k), (18, bV false)] zo ?_
   refine uO ?_
   refine aC [.w, .no] (u3 ((k : Int) + 1)) [(1, iV v), (4, rV 1 0), (5, oV 3 0 q 2), (9, sV .i64 l n), (10, uV n), (11, iV (↑k + 1))] [(1, some (60, .ds [qI])), (3, some (95, .ds (dI .i64 o)))] 5 ⟨by omega, by omega⟩ ?_
   exact kW ⟨(((k + 1) : Nat), (q : Nat), (o : List Int)), ⟨zo, (by exact v6o ho zo), (by assumption)⟩⟩ [] (P := (kM v) ∧ (kG 0) ∧ (kG 0) ∧ (kG q) ∧ (kJ (dI .i64 l)) ∧ (kG n) ∧ (kM (n : Int)) ∧ (bU k) ∧ (kJ [qI]) ∧ (kJ (dI .i64 o))) zk ⟨rfl, rfl, rfl, rfl, rfl, rfl, rfl, (by rfl), rfl, rfl⟩ (show n - (k + 1) < n - k from zo)
 ·refine kH [.b false] (¬ ((k : Int) < (n : Int))) [(1, iV v), (4, rV 1 0), (5, oV 3 0 q 2), (9, sV .i64 l n), (10, uV n), (11, uV k), (12, bV false)] [(1, some (60, .ds [qI])), (3, some (95, .ds (dI .i64 o)))] 4 zo ?_
  refine AW.seq ?_
  refine zf ?_
  refine AW.exit ?_
  refine kH [.no, .no, .no] True [(4, rV 1 0)] [(1, some (60, .cs [.own 3 0 q 2 true])), (3, some (95, .ds (dI .i64 o)))] 4 trivial ?_
  refine AW.freeze 3 (l' := [(4, rV 1 0)]) (g' := [(1, some (60, .ds [dl o q]))]) rfl (FzS.cons rfl (.same _) FzS.nil) (FzG.to (bc := .cs [.own 3 0 q 2 true]) rfl (by rfl) (FzL.cons (@FzC.own 3 ((dI .i64 o) : List D) 0 q 2 true ((dI .i64 o) : List D) p9 aR) FzL.nil) FzG.nil) ?_
  have hz1 : dQ l v n = o := by have h9 := ho; rw [show k = n by omega] at h9; exact h9
  have hz2 : lH l v n = q := by unfold lH; rw [hz1]; omega
  refine AW.ret ?_
  exact kA (.inr rfl) [] (P := (((dI .i64 (dQ l v n)) : List D) = (dI .i64 o)) ∧ (((lH l v n) : Nat) = q)) zk ⟨(by (rw [hz1]; done)), (by exact hz2)⟩
theorem j4 (a b : List Int) (n m : Nat) (ha : ka0 a = n * 2) (hb : ka0 b = m * 2) (h3 : n ≤ 1000000) (h4 : m ≤ 1000000) : Fun 160 [.agg [.d (D.sl (dI .i64 a) n)], .agg [.d (D.sl (dI .i64 b) m)]] (kF []) 0 (.tup [.agg [.d (D.sl (dI .i64 (uF (kB a n) (kB b m))) (qK (kB a n) (kB b m)))], .c (.d (D.lit (.bool (lW a n b m))))]) (kF []) 0 := by
 refine Fun.mk (n := 30) Tryz.func160 rfl rfl (ka4 rfl) ?_
 intro cx hcx
 refine kH (qE 4 []) True [(2, rV 0 0), (3, rV 1 0), (4, rV 2 0)] [(0, some (60, .ds [dl a n])), (1, some (60, .ds [dl b m])), (2, some (60, .ds [qI]))] 3 trivial ?_
 have hx1 : ((ka0 (uF (kB a n) (kB b m))) = ((qK (kB a n) (kB b m)) * 2)) := uR _ _
 have hx2 : ((qK (kB a n) (kB b m)) ≤ 64) := v9 _ _
 refine kH [.no, .no, .call [] (.e (.agg [.d (dl (uF (kB a n) (kB b m)) (qK (kB a n) (kB b m)))])) [] 0 [] none, .no, .no] _ [(2, rV 0 0), (3, rV 1 0), (4, rV 2 0), (6, rV 3 0)] [(0, some (60, .ds [dl a n])), (1, some (60, .ds [dl b m])), (2, some (60, .ds [qI])), (3, some (60, .ds [dl (uF (kB a n) (kB b m)) (qK (kB a n) (kB b m))]))] 4 (f0 a b n m zo zo zo zo) ?_
 refine AW.seq ?_
 by_cases hx3 : ((((qK (kB a n) (kB b m)) : Nat) : Int) < 64)
 ·refine kS [.no, .no, .no, .b true] (((qK (kB a n) (kB b m) : Int) < 64)) [(2, rV 0 0), (3, rV 1 0), (4, rV 2 0), (6, rV 3 0), (14, bV true)] zo ?_
  refine zt ?_
  refine kH [.no, .no, .no] True [(4, rV 2 0), (5, bV true)] [(2, some (60, .ds [dl (uF (kB a n) (kB b m)) (qK (kB a n) (kB b m))]))] 4 trivial ?_
  refine AW.ret ?_
  exact kA (.inr rfl) [] (P := (kJ (dI .i64 (uF (kB a n) (kB b m)))) ∧ (kG (qK (kB a n) (kB b m))) ∧ ((lW a n b m) = true)) zk ⟨rfl, rfl, (by exact u7r zo)⟩
 ·refine kS [.no, .no, .no, .b false] (¬ ((qK (kB a n) (kB b m) : Int) < 64)) [(2, rV 0 0), (3, rV 1 0), (4, rV 2 0), (6, rV 3 0), (14, bV false)] zo ?_
  refine uO ?_
  have hx4 : 0 ≤ ka1 (uF (kB a n) (kB b m)) 127 0 ∧ ka1 (uF (kB a n) (kB b m)) 127 0 ≤ 2147483647 := v25 ha hb zo
  have hx5 : ((ka0 (dQ a (ka1 (uF (kB a n) (kB b m)) 127 0) n)) = ((lH a (ka1 (uF (kB a n) (kB b m)) 127 0) n) * 2)) := (tG a (ka1 (uF (kB a n) (kB b m)) 127 0) n).1
  have hx6 : ((lH a (ka1 (uF (kB a n) (kB b m)) 127 0) n) ≤ n) := (tG a (ka1 (uF (kB a n) (kB b m)) 127 0) n).2
  have hx7 : ((ka0 (uF (kB (dQ a (ka1 (uF (kB a n) (kB b m)) 127 0) n) (lH a (ka1 (uF (kB a n) (kB b m)) 127 0) n)) (kB b m))) = ((qK (kB (dQ a (ka1 (uF (kB a n) (kB b m)) 127 0) n) (lH a (ka1 (uF (kB a n) (kB b m)) 127 0) n)) (kB b m)) * 2)) := uR _ _
  have hx8 : ((qK (kB (dQ a (ka1 (uF (kB a n) (kB b m)) 127 0) n) (lH a (ka1 (uF (kB a n) (kB b m)) 127 0) n)) (kB b m)) ≤ 64) := v9 _ _
  refine kH [.no, .no, .no, .n 63, .no, .d (D.lit (.int .i64 (ka1 (uF (kB a n) (kB b m)) 127 0))), .call [] (.e (.agg [.d (dl (dQ a (ka1 (uF (kB a n) (kB b m)) 127 0) n) (lH a (ka1 (uF (kB a n) (kB b m)) 127 0) n))])) [] 0 [] none, .no, .call [] (.e (.agg [.d (dl (uF (kB (dQ a (ka1 (uF (kB a n) (kB b m)) 127 0) n) (lH a (ka1 (uF (kB a n) (kB b m)) 127 0) n)) (kB b m)) (qK (kB (dQ a (ka1 (uF (kB a n) (kB b m)) 127 0) n) (lH a (ka1 (uF (kB a n) (kB b m)) 127 0) n)) (kB b m)))])) [] 0 [] none, .no, .no] ((kM 63) ∧ ((63 : Nat) < (qK (kB a n) (kB b m))) ∧ ((ka3 1 (ka3 126 (dI .i64 (uF (kB a n) (kB b m)))))[0]? = some (D.lit (.int .i64 (ka1 (uF (kB a n) (kB b m)) 127 0)))) ∧ (_) ∧ (_)) [(4, rV 2 0), (6, rV 3 0), (7, rV 4 0)] [(2, some (60, .ds [qI])), (3, some (60, .ds [dl (uF (kB a n) (kB b m)) (qK (kB a n) (kB b m))])), (4, some (60, .ds [dl (uF (kB (dQ a (ka1 (uF (kB a n) (kB b m)) 127 0) n) (lH a (ka1 (uF (kB a n) (kB b m)) 127 0) n)) (kB b m)) (qK (kB (dQ a (ka1 (uF (kB a n) (kB b m)) 127 0) n) (lH a (ka1 (uF (kB a n) (kB b m)) 127 0) n)) (kB b m))]))] 5 ⟨rfl, zo, (by (rw [List.drop_drop]; exact yF _ _ _ zo)), (u3y a n (ka1 (uF (kB a n) (kB b m)) 127 0) zo zo zo), (f0 (dQ a (ka1 (uF (kB a n) (kB b m)) 127 0) n) b (lH a (ka1 (uF (kB a n) (kB b m)) 127 0) n) m zo zo zo zo)⟩ ?_
  by_cases hx9 : ((((qK (kB (dQ a (ka1 (uF (kB a n) (kB b m)) 127 0) n) (lH a (ka1 (uF (kB a n) (kB b m)) 127 0) n)) (kB b m)) : Nat) : Int) = 0)
  ·refine kH (qE 4 [.b true, .no, .no]) (((((qK (kB (dQ a (ka1 (uF (kB a n) (kB b m)) 127 0) n) (lH a (ka1 (uF (kB a n) (kB b m)) 127 0) n)) (kB b m)) : Nat) : Int) = 0)) [(4, rV 2 0), (5, bV true)] [(2, some (60, .ds [dl (uF (kB a n) (kB b m)) (qK (kB a n) (kB b m))]))] 5 zo ?_
   refine AW.ret ?_
   exact kA (.inr rfl) [] (P := (kJ (dI .i64 (uF (kB a n) (kB b m)))) ∧ (kG (qK (kB a n) (kB b m))) ∧ ((lW a n b m) = true)) zk ⟨rfl, rfl, (by exact v5h zo)⟩
  ·refine kH (qE 4 [.b false, .no, .no]) (¬ ((((qK (kB (dQ a (ka1 (uF (kB a n) (kB b m)) 127 0) n) (lH a (ka1 (uF (kB a n) (kB b m)) 127 0) n)) (kB b m)) : Nat) : Int) = 0)) [(4, rV 2 0), (5, bV false)] [(2, some (60, .ds [dl (uF (kB a n) (kB b m)) (qK (kB a n) (kB b m))]))] 5 zo ?_
   refine AW.ret ?_
   exact kA (.inr rfl) [] (P := (kJ (dI .i64 (uF (kB a n) (kB b m)))) ∧ (kG (qK (kB a n) (kB b m))) ∧ ((lW a n b m) = false)) zk ⟨rfl, rfl, (by exact v5i zo zo)⟩
abbrev dS : BC := .ds [iD 0, D.lit (.slice none 0 0), D.lit (.slice none 0 0), D.lit (.slice none 0 0)]
abbrev lQ (k : Int) (k2 : Int) (r : List Int) (rn : Nat) (r2 : List Int) (rn2 : Nat) (m : List (List Int)) (m2 : List (List Int)) (c : Nat) (s : List Int) (sn : Nat) (s2 : List Int) (sn2 : Nat) : BC := .ds [iD (qG k k2), D.sl (dI .i64 (uF (kB r rn) (kB r2 rn2))) (qK (kB r rn) (kB r2 rn2)), D.sl (kI (uS m m2 c)) (ka0 (uS m m2 c)), D.sl (dI .i64 (uF (kB s sn) (kB s2 sn2))) (qK (kB s sn) (kB s2 sn2))]
abbrev fI (r : List Int) (rn : Nat) (r2 : List Int) (rn2 : Nat) : BC := .ds [D.sl (dI .i64 (uF (kB r rn) (kB r2 rn2))) (qK (kB r rn) (kB r2 rn2))]
theorem k3c (k : Int) (r : List Int) (rn : Nat) (m : List (List Int)) (c : Nat) (s : List Int) (sn : Nat) (k2 : Int) (r2 : List Int) (rn2 : Nat) (m2 : List (List Int)) (c2 : Nat) (s2 : List Int) (sn2 : Nat) (hr : ka0 r = rn * 2) (hs : ka0 s = sn * 2) (hc : ka0 m = c) (h1 : rn ≤ 1000000) (h2 : sn ≤ 1000000) (h3 : c ≤ 1000000) (hW : MsW m) (hr2 : ka0 r2 = rn2 * 2) (hs2 : ka0 s2 = sn2 * 2) (hc2 : ka0 m2 = c2) (h12 : rn2 ≤ 1000000) (h22 : sn2 ≤ 1000000) (h32 : c2 ≤ 1000000) (hW2 : MsW m2) : Fun 134 [.agg [iC k, .d (D.sl (dI .i64 r) rn), .d (D.sl (kI m) c), .d (D.sl (dI .i64 s) sn)], .agg [iC k2, .d (D.sl (dI .i64 r2) rn2), .d (D.sl (kI m2) c2), .d (D.sl (dI .i64 s2) sn2)]] (kF []) 0 (.tup [.agg [iC (qG k k2), .d (D.sl (dI .i64 (uF (kB r rn) (kB r2 rn2))) (qK (kB r rn) (kB r2 rn2))), .d (D.sl (kI (uS m m2 c)) (ka0 (uS m m2 c))), .d (D.sl (dI .i64 (uF (kB s sn) (kB s2 sn2))) (qK (kB s sn) (kB s2 sn2)))], .c (.d (D.lit (.bool (xsB r rn r2 rn2 s sn s2 sn2))))]) (kF []) 0 := by
 refine Fun.mk (n := 43) Tryz.func134 rfl rfl (ka4 rfl) ?_
 intro cx hcx
 refine kH (qE 4 []) True [(2, rV 0 0), (3, rV 1 0), (4, rV 2 0)] [(0, some (63, .ds [iD k, dl r rn, D.sl (kI m) c, dl s sn])), (1, some (63, .ds [iD k2, dl r2 rn2, D.sl (kI m2) c2, dl s2 sn2])), (2, some (63, dS))] 3 trivial ?_
 rcases ka9 (lW r rn r2 rn2) with hx1 | hx1
 ·have hx2 : ((ka0 (uF (kB r rn) (kB r2 rn2))) = ((qK (kB r rn) (kB r2 rn2)) * 2)) := uR _ _
  have hx3 : ((qK (kB r rn) (kB r2 rn2)) ≤ 64) := v9 _ _
  refine kH (qE 4 (.call [] (.tup [.agg [.d (dl (uF (kB r rn) (kB r2 rn2)) (qK (kB r rn) (kB r2 rn2)))], .c (.d (D.lit (.bool true)))]) [] 0 [] none :: qE 6 [])) (Fun 160 [.agg [.d (dl r rn)], .agg [.d (dl r2 rn2)]] (kF []) 0 (.tup [.agg [.d (dl (uF (kB r rn) (kB r2 rn2)) (qK (kB r rn) (kB r2 rn2)))], .c (.d (D.lit (.bool true)))]) (kF []) 0) [(2, rV 0 0), (3, rV 1 0), (4, rV 2 0), (6, rV 3 0), (7, bV true)] [(0, some (63, .ds [iD k, dl r rn, D.sl (kI m) c, dl s sn])), (1, some (63, .ds [iD k2, dl r2 rn2, D.sl (kI m2) c2, dl s2 sn2])), (2, some (63, dS)), (3, some (60, (fI r rn r2 rn2)))] 4 (by have h0 := (j4 r r2 rn rn2 zo zo zo zo); rw [hx1] at h0; exact h0) ?_
  rcases ka9 (lW s sn s2 sn2) with hx4 | hx4
  ·have hx5 : ((ka0 (uF (kB s sn) (kB s2 sn2))) = ((qK (kB s sn) (kB s2 sn2)) * 2)) := uR _ _
   have hx6 : ((qK (kB s sn) (kB s2 sn2)) ≤ 64) := v9 _ _
   refine kH (qE 4 (.call [] (.tup [.agg [.d (dl (uF (kB s sn) (kB s2 sn2)) (qK (kB s sn) (kB s2 sn2)))], .c (.d (D.lit (.bool true)))]) [] 0 [] none :: qE 6 [])) (Fun 160 [.agg [.d (dl s sn)], .agg [.d (dl s2 sn2)]] (kF []) 0 (.tup [.agg [.d (dl (uF (kB s sn) (kB s2 sn2)) (qK (kB s sn) (kB s2 sn2)))], .c (.d (D.lit (.bool true)))]) (kF []) 0) [(2, rV 0 0), (3, rV 1 0), (4, rV 2 0), (6, rV 3 0), (7, bV true), (8, rV 4 0), (9, bV true)] [(0, some (63, .ds [iD k, dl r rn, D.sl (kI m) c, dl s sn])), (1, some (63, .ds [iD k2, dl r2 rn2, D.sl (kI m2) c2, dl s2 sn2])), (2, some (63, dS)), (3, some (60, (fI r rn r2 rn2))), (4, some (60, .ds [dl (uF (kB s sn) (kB s2 sn2)) (qK (kB s sn) (kB s2 sn2))]))] 5 (by have h0 := (j4 s s2 sn sn2 zo zo zo zo); rw [hx4] at h0; exact h0) ?_
   have hx7 : ((ka0 (uS m m2 c)) ≤ c) := cN m m2 c
   refine kH (qE 4 (.i (qG k k2) :: qE 5 (.call [] (qC (kI (uS m m2 c)) (ka0 (uS m m2 c))) [] 0 [] none :: qE 8 []))) ((qF .and .i64 k k2 = (qG k k2)) ∧ (_)) [(4, rV 2 0), (5, bV true)] [(2, some (63, (lQ k k2 r rn r2 rn2 m m2 c s sn s2 sn2)))] 5 ⟨rfl, (k4t m m2 c c2 zo zo zo zo (qD : MsW m) (qD : MsW m2))⟩ ?_
   refine AW.ret ?_
   exact kA (.inr rfl) [] (P := (kM (qG k k2)) ∧ (kJ (dI .i64 (uF (kB r rn) (kB r2 rn2)))) ∧ (kG (qK (kB r rn) (kB r2 rn2))) ∧ (kJ (kI (uS m m2 c))) ∧ (kG (ka0 (uS m m2 c))) ∧ (kJ (dI .i64 (uF (kB s sn) (kB s2 sn2)))) ∧ (kG (qK (kB s sn) (kB s2 sn2))) ∧ ((xsB r rn r2 rn2 s sn s2 sn2) = true)) zk ⟨rfl, rfl, rfl, rfl, rfl, rfl, rfl, (by exact u6r (by assumption) (by assumption))⟩
  ·have hx8 : ((ka0 (uF (kB s sn) (kB s2 sn2))) = ((qK (kB s sn) (kB s2 sn2)) * 2)) := uR _ _
   have hx9 : ((qK (kB s sn) (kB s2 sn2)) ≤ 64) := v9 _ _
   refine kH (qE 4 (.call [] (.tup [.agg [.d (dl (uF (kB s sn) (kB s2 sn2)) (qK (kB s sn) (kB s2 sn2)))], .c (.d (D.lit (.bool false)))]) [] 0 [] none :: qE 6 [])) (Fun 160 [.agg [.d (dl s sn)], .agg [.d (dl s2 sn2)]] (kF []) 0 (.tup [.agg [.d (dl (uF (kB s sn) (kB s2 sn2)) (qK (kB s sn) (kB s2 sn2)))], .c (.d (D.lit (.bool false)))]) (kF []) 0) [(2, rV 0 0), (3, rV 1 0), (4, rV 2 0), (6, rV 3 0), (7, bV true), (8, rV 4 0), (9, bV false)] [(0, some (63, .ds [iD k, dl r rn, D.sl (kI m) c, dl s sn])), (1, some (63, .ds [iD k2, dl r2 rn2, D.sl (kI m2) c2, dl s2 sn2])), (2, some (63, dS)), (3, some (60, (fI r rn r2 rn2))), (4, some (60, .ds [dl (uF (kB s sn) (kB s2 sn2)) (qK (kB s sn) (kB s2 sn2))]))] 5 (by have h0 := (j4 s s2 sn sn2 zo zo zo zo); rw [hx4] at h0; exact h0) ?_
   have hx10 : ((ka0 (uS m m2 c)) ≤ c) := cN m m2 c
   refine kH (qE 4 (.i (qG k k2) :: qE 5 (.call [] (qC (kI (uS m m2 c)) (ka0 (uS m m2 c))) [] 0 [] none :: qE 8 []))) ((qF .and .i64 k k2 = (qG k k2)) ∧ (_)) [(4, rV 2 0), (5, bV false)] [(2, some (63, (lQ k k2 r rn r2 rn2 m m2 c s sn s2 sn2)))] 5 ⟨rfl, (k4t m m2 c c2 zo zo zo zo (qD : MsW m) (qD : MsW m2))⟩ ?_
   refine AW.ret ?_
   exact kA (.inr rfl) [] (P := (kM (qG k k2)) ∧ (kJ (dI .i64 (uF (kB r rn) (kB r2 rn2)))) ∧ (kG (qK (kB r rn) (kB r2 rn2))) ∧ (kJ (kI (uS m m2 c))) ∧ (kG (ka0 (uS m m2 c))) ∧ (kJ (dI .i64 (uF (kB s sn) (kB s2 sn2)))) ∧ (kG (qK (kB s sn) (kB s2 sn2))) ∧ ((xsB r rn r2 rn2 s sn s2 sn2) = false)) zk ⟨rfl, rfl, rfl, rfl, rfl, rfl, rfl, (by exact v40 (by assumption))⟩
 ·have hx11 : ((ka0 (uF (kB r rn) (kB r2 rn2))) = ((qK (kB r rn) (kB r2 rn2)) * 2)) := uR _ _
  have hx12 : ((qK (kB r rn) (kB r2 rn2)) ≤ 64) := v9 _ _
  refine kH (qE 4 (.call [] (.tup [.agg [.d (dl (uF (kB r rn) (kB r2 rn2)) (qK (kB r rn) (kB r2 rn2)))], .c (.d (D.lit (.bool false)))]) [] 0 [] none :: qE 6 [])) (Fun 160 [.agg [.d (dl r rn)], .agg [.d (dl r2 rn2)]] (kF []) 0 (.tup [.agg [.d (dl (uF (kB r rn) (kB r2 rn2)) (qK (kB r rn) (kB r2 rn2)))], .c (.d (D.lit (.bool false)))]) (kF []) 0) [(2, rV 0 0), (3, rV 1 0), (4, rV 2 0), (6, rV 3 0), (7, bV false)] [(0, some (63, .ds [iD k, dl r rn, D.sl (kI m) c, dl s sn])), (1, some (63, .ds [iD k2, dl r2 rn2, D.sl (kI m2) c2, dl s2 sn2])), (2, some (63, dS)), (3, some (60, (fI r rn r2 rn2)))] 4 (by have h0 := (j4 r r2 rn rn2 zo zo zo zo); rw [hx1] at h0; exact h0) ?_
  rcases ka9 (lW s sn s2 sn2) with hx13 | hx13
  ·have hx14 : ((ka0 (uF (kB s sn) (kB s2 sn2))) = ((qK (kB s sn) (kB s2 sn2)) * 2)) := uR _ _
   have hx15 : ((qK (kB s sn) (kB s2 sn2)) ≤ 64) := v9 _ _
   refine kH (qE 4 (.call [] (.tup [.agg [.d (dl (uF (kB s sn) (kB s2 sn2)) (qK (kB s sn) (kB s2 sn2)))], .c (.d (D.lit (.bool true)))]) [] 0 [] none :: qE 6 [])) (Fun 160 [.agg [.d (dl s sn)], .agg [.d (dl s2 sn2)]] (kF []) 0 (.tup [.agg [.d (dl (uF (kB s sn) (kB s2 sn2)) (qK (kB s sn) (kB s2 sn2)))], .c (.d (D.lit (.bool true)))]) (kF []) 0) [(2, rV 0 0), (3, rV 1 0), (4, rV 2 0), (6, rV 3 0), (7, bV false), (8, rV 4 0), (9, bV true)] [(0, some (63, .ds [iD k, dl r rn, D.sl (kI m) c, dl s sn])), (1, some (63, .ds [iD k2, dl r2 rn2, D.sl (kI m2) c2, dl s2 sn2])), (2, some (63, dS)), (3, some (60, (fI r rn r2 rn2))), (4, some (60, .ds [dl (uF (kB s sn) (kB s2 sn2)) (qK (kB s sn) (kB s2 sn2))]))] 5 (by have h0 := (j4 s s2 sn sn2 zo zo zo zo); rw [hx13] at h0; exact h0) ?_
   have hx16 : ((ka0 (uS m m2 c)) ≤ c) := cN m m2 c
   refine kH (qE 4 (.i (qG k k2) :: qE 5 (.call [] (qC (kI (uS m m2 c)) (ka0 (uS m m2 c))) [] 0 [] none :: qE 7 []))) ((qF .and .i64 k k2 = (qG k k2)) ∧ (_)) [(4, rV 2 0), (5, bV false)] [(2, some (63, (lQ k k2 r rn r2 rn2 m m2 c s sn s2 sn2)))] 5 ⟨rfl, (k4t m m2 c c2 zo zo zo zo (qD : MsW m) (qD : MsW m2))⟩ ?_
   refine AW.ret ?_
   exact kA (.inr rfl) [] (P := (kM (qG k k2)) ∧ (kJ (dI .i64 (uF (kB r rn) (kB r2 rn2)))) ∧ (kG (qK (kB r rn) (kB r2 rn2))) ∧ (kJ (kI (uS m m2 c))) ∧ (kG (ka0 (uS m m2 c))) ∧ (kJ (dI .i64 (uF (kB s sn) (kB s2 sn2)))) ∧ (kG (qK (kB s sn) (kB s2 sn2))) ∧ ((xsB r rn r2 rn2 s sn s2 sn2) = false)) zk ⟨rfl, rfl, rfl, rfl, rfl, rfl, rfl, (by exact u9m (by assumption))⟩
  ·have hx17 : ((ka0 (uF (kB s sn) (kB s2 sn2))) = ((qK (kB s sn) (kB s2 sn2)) * 2)) := uR _ _
   have hx18 : ((qK (kB s sn) (kB s2 sn2)) ≤ 64) := v9 _ _
   refine kH (qE 4 (.call [] (.tup [.agg [.d (dl (uF (kB s sn) (kB s2 sn2)) (qK (kB s sn) (kB s2 sn2)))], .c (.d (D.lit (.bool false)))]) [] 0 [] none :: qE 6 [])) (Fun 160 [.agg [.d (dl s sn)], .agg [.d (dl s2 sn2)]] (kF []) 0 (.tup [.agg [.d (dl (uF (kB s sn) (kB s2 sn2)) (qK (kB s sn) (kB s2 sn2)))], .c (.d (D.lit (.bool false)))]) (kF []) 0) [(2, rV 0 0), (3, rV 1 0), (4, rV 2 0), (6, rV 3 0), (7, bV false), (8, rV 4 0), (9, bV false)] [(0, some (63, .ds [iD k, dl r rn, D.sl (kI m) c, dl s sn])), (1, some (63, .ds [iD k2, dl r2 rn2, D.sl (kI m2) c2, dl s2 sn2])), (2, some (63, dS)), (3, some (60, (fI r rn r2 rn2))), (4, some (60, .ds [dl (uF (kB s sn) (kB s2 sn2)) (qK (kB s sn) (kB s2 sn2))]))] 5 (by have h0 := (j4 s s2 sn sn2 zo zo zo zo); rw [hx13] at h0; exact h0) ?_
   have hx19 : ((ka0 (uS m m2 c)) ≤ c) := cN m m2 c
   refine kH (qE 4 (.i (qG k k2) :: qE 5 (.call [] (qC (kI (uS m m2 c)) (ka0 (uS m m2 c))) [] 0 [] none :: qE 7 []))) ((qF .and .i64 k k2 = (qG k k2)) ∧ (_)) [(4, rV 2 0), (5, bV false)] [(2, some (63, (lQ k k2 r rn r2 rn2 m m2 c s sn s2 sn2)))] 5 ⟨rfl, (k4t m m2 c c2 zo zo zo zo (qD : MsW m) (qD : MsW m2))⟩ ?_
   refine AW.ret ?_
   exact kA (.inr rfl) [] (P := (kM (qG k k2)) ∧ (kJ (dI .i64 (uF (kB r rn) (kB r2 rn2)))) ∧ (kG (qK (kB r rn) (kB r2 rn2))) ∧ (kJ (kI (uS m m2 c))) ∧ (kG (ka0 (uS m m2 c))) ∧ (kJ (dI .i64 (uF (kB s sn) (kB s2 sn2)))) ∧ (kG (qK (kB s sn) (kB s2 sn2))) ∧ ((xsB r rn r2 rn2 s sn s2 sn2) = false)) zk ⟨rfl, rfl, rfl, rfl, rfl, rfl, rfl, (by exact u9m (by assumption))⟩
abbrev uU (a : List Bx) (i : Nat) (b : List Bx) (j : Nat) := uF (kB (kY a i) (kV a i)) (kB (kY b j) (kV b j))
abbrev uM (a : List Bx) (i : Nat) (b : List Bx) (j : Nat) := qK (kB (kY a i) (kV a i)) (kB (kY b j) (kV b j))
abbrev qJ (a : List Bx) (i : Nat) (b : List Bx) (j : Nat) := uS (kT a i) (kT b j) (ka0 (kT a i))
abbrev uT (a : List Bx) (i : Nat) (b : List Bx) (j : Nat) := uF (kB (kX a i) (kU a i)) (kB (kX b j) (kU b j))
abbrev uL (a : List Bx) (i : Nat) (b : List Bx) (j : Nat) := qK (kB (kX a i) (kU a i)) (kB (kX b j) (kU b j))
abbrev g8 (a : List Bx) (i : Nat) (b : List Bx) (j : Nat) := kE (qG (kQ a i) (kQ b j)) (uU a i b j) (uM a i b j) (qJ a i b j) (uT a i b j) (uL a i b j)
abbrev aT (a : List Bx) (i : Nat) : BC := .ds [iD (kQ a i), D.sl (dI .i64 (kY a i)) (kV a i), D.sl (kI (kT a i)) (ka0 (kT a i)), D.sl (dI .i64 (kX a i)) (kU a i)]
abbrev k1d (a : List Bx) (i : Nat) (b : List Bx) (j : Nat) : BC := .ds [iD (qG (kQ a i) (kQ b j)), D.sl (dI .i64 (uU a i b j)) (uM a i b j), D.sl (kI (qJ a i b j)) (ka0 (qJ a i b j)), D.sl (dI .i64 (uT a i b j)) (uL a i b j)]
theorem v3l (a b : List Bx) (n m : Nat) (hn : ka0 a = n) (hm : ka0 b = m) (h1 : n ≤ 1000) (h2 : m ≤ 1000) (hW : BsW a) (hV : BsW b) : Fun 97 [.c (.d (D.sl (kN a) n)), .c (.d (D.sl (kN b) m))] (kF []) 0 (.tup [.c (.d (D.sl (kN (yE a b)) (ka0 (yE a b)))), iE (eN a b)]) (kF []) 0 := by
 refine Fun.mk (n := 59) Tryz.func97 rfl rfl (ka4 rfl) ?_
 intro cx hcx
 refine kH [.no, .no] True [(0, .e (k9 a n)), (1, .e (k9 b m))] [] 0 trivial ?_
 refine AW.seq ?_
 rcases ka9 (cF a) with hx1 | hx1
 ·rcases ka9 (cF b) with hx2 | hx2
  ·refine kS [.no, .call [] (bV true) [] 0 [] none, .no, .no, .no, .call [] (bV true) [] 0 [] none, .no, .no] ((Fun 60 [.c (.d (D.sl (kN a) n))] (kF []) 0 (bV true) (kF []) 0) ∧ (Fun 60 [.c (.d (D.sl (kN b) m))] (kF []) 0 (bV true) (kF []) 0)) [(0, .e (k9 a n)), (1, .e (k9 b m)), (20, bV false)] ⟨(by have h0 := (vY a n zo zo (qD : BsW a)); rw [hx1] at h0; exact h0), (by have h0 := (vY b m zo zo (qD : BsW b)); rw [hx2] at h0; exact h0)⟩ ?_
   refine uO ?_
   refine kS [.no] True [(0, .e (k9 a n)), (1, .e (k9 b m)), (6, nV)] trivial ?_
   refine AW.seq ?_
   refine kS [.no, .no, .no] True [(1, .e (k9 b m)), (6, nV), (21, .e (k9 a n)), (22, uV n), (23, iV 0)] trivial ?_
   refine AW.block ?_
   refine AW.adoptS 6 4 63 rfl ?_
   refine k8 0 hcx (fun (x : {x : Nat × Nat × List Bx // match x with | (i, q, o) => (i ≤ n) ∧ (CI a b i o) ∧ (ka0 o = q ∧ q ≤ 64) ∧ (BsW o)}) => match x with | ⟨(i, q, o), _⟩ => (⟨[(1, .e (k9 b m)), (6, oV 1 0 q 4), (21, .e (k9 a n)), (22, uV n), (23, uV i)], [(1, some (63, .ds (kN o)))], 2⟩ : ES)) (fun x => match x with | ⟨(i, q, o), _⟩ => n - i) ⟨((0 : Nat), (0 : Nat), (([] : List Bx) : List Bx)), ⟨zo, CI.zero a b, ⟨rfl, by omega⟩, BsW.nil⟩⟩ [(1, 0)] (P := (kJ (kN b)) ∧ (kG m) ∧ (kG 0) ∧ (kG 0) ∧ (kJ (kN a)) ∧ (kG n) ∧ (kM (n : Int)) ∧ (kM 0) ∧ (((kN ([] : List Bx)) : List D) = ([] : List D))) zk ⟨rfl, rfl, rfl, rfl, rfl, rfl, rfl, rfl, (by rfl)⟩ ?_
   rintro ⟨⟨i, q, o⟩, hinv0⟩
   obtain ⟨hi, hI, hq, hO⟩ : (i ≤ n) ∧ (CI a b i o) ∧ (ka0 o = q ∧ q ≤ 64) ∧ (BsW o) := hinv0
   refine qW (l := [(1, .e (k9 b m)), (6, oV 1 0 q 4), (21, .e (k9 a n)), (22, uV n), (23, uV i)]) (g := [(1, some (63, .ds (kN o)))]) (nx := 2) rfl rfl rfl ?_
   by_cases hx3 : (((i : Nat) : Int) < ((n : Nat) : Int))
   ·refine kH [.b true] (((i : Int) < (n : Int))) [(1, .e (k9 b m)), (6, oV 1 0 q 4), (21, .e (k9 a n)), (22, uV n), (23, uV i), (24, bV true)] [(1, some (63, .ds (kN o)))] 2 zo ?_
    refine AW.seq ?_
    refine vL ?_
    refine AW.seq ?_
    refine AW.block ?_
    obtain ⟨hx4, hx5, hx6, hx7, hx8⟩ := BsW.at (qD : BsW a) (i)
    refine kH [.n i, .ds (yI a i), .no, .no] ((kM (i : Int)) ∧ (i < n) ∧ (ka5 4 (ka3 (i * 4) (kN a)) = (yI a i)) ∧ (((yI a i) : List D).length = 4)) [(1, .e (k9 b m)), (6, oV 1 0 q 4), (8, rV 2 0), (21, .e (k9 a n)), (22, uV n), (23, uV i)] [(1, some (63, .ds (kN o))), (2, some (63, (aT a i)))] 3 ⟨rfl, zo, (vB zo), rfl⟩ ?_
    refine kS [.no, .no, .no] True [(1, .e (k9 b m)), (6, oV 1 0 q 4), (8, rV 2 0), (21, .e (k9 a n)), (22, uV n), (23, uV i), (27, .e (k9 b m)), (28, uV m), (29, iV 0)] trivial ?_
    refine AW.block ?_
    refine k8 0 hcx (fun (x : {x : Nat × Nat × List Bx // match x with | (j, p, x) => (j ≤ m) ∧ (CJ2 a b i j x) ∧ (ka0 x = p ∧ p ≤ 64) ∧ (BsW x)}) => match x with | ⟨(j, p, x), _⟩ => (⟨[(1, .e (k9 b m)), (6, oV 3 0 p 4), (8, rV 2 0), (21, .e (k9 a n)), (22, uV n), (23, uV i), (27, .e (k9 b m)), (28, uV m), (29, uV j)], [(3, some (63, .ds (kN x))), (2, some (63, (aT a i)))], 4⟩ : ES)) (fun x => match x with | ⟨(j, p, x), _⟩ => m - j) ⟨((0 : Nat), (q : Nat), (o : List Bx)), ⟨zo, hI.in, (by assumption), hO⟩⟩ [(3, 1)] (P := (kJ (kN b)) ∧ (kG m) ∧ (kG 0) ∧ (kG q) ∧ (kG 0) ∧ (kJ (kN a)) ∧ (kG n) ∧ (kM (n : Int)) ∧ (kM (i : Int)) ∧ (kJ (kN b)) ∧ (kG m) ∧ (kM (m : Int)) ∧ (kM 0) ∧ (kJ (kN o)) ∧ (kJ (yI a i))) zk ⟨rfl, rfl, rfl, rfl, rfl, rfl, rfl, rfl, rfl, rfl, rfl, rfl, rfl, rfl, rfl⟩ ?_
    rintro ⟨⟨j, p, x⟩, hinv1⟩
    obtain ⟨hj, hJ, hp, hX⟩ : (j ≤ m) ∧ (CJ2 a b i j x) ∧ (ka0 x = p ∧ p ≤ 64) ∧ (BsW x) := hinv1
    refine qW (l := [(1, .e (k9 b m)), (6, oV 3 0 p 4), (8, rV 2 0), (21, .e (k9 a n)), (22, uV n), (23, uV i), (27, .e (k9 b m)), (28, uV m), (29, uV j)]) (g := [(3, some (63, .ds (kN x))), (2, some (63, (aT a i)))]) (nx := 4) rfl rfl rfl ?_
    by_cases hx9 : (((j : Nat) : Int) < ((m : Nat) : Int))
    ·refine kH [.b true] (((j : Int) < (m : Int))) [(1, .e (k9 b m)), (6, oV 3 0 p 4), (8, rV 2 0), (21, .e (k9 a n)), (22, uV n), (23, uV i), (27, .e (k9 b m)), (28, uV m), (29, uV j), (30, bV true)] [(2, some (63, (aT a i))), (3, some (63, .ds (kN x)))] 4 zo ?_
     refine AW.seq ?_
     refine vL ?_
     refine AW.seq ?_
     refine AW.block ?_
     obtain ⟨hx10, hx11, hx12, hx13, hx14⟩ := BsW.at (qD : BsW b) (j)
     refine kH [.n j, .ds (yI b j), .no, .no] ((kM (j : Int)) ∧ (j < m) ∧ (ka5 4 (ka3 (j * 4) (kN b)) = (yI b j)) ∧ (((yI b j) : List D).length = 4)) [(1, .e (k9 b m)), (6, oV 3 0 p 4), (8, rV 2 0), (10, rV 4 0), (21, .e (k9 a n)), (22, uV n), (23, uV i), (27, .e (k9 b m)), (28, uV m), (29, uV j)] [(2, some (63, (aT a i))), (3, some (63, .ds (kN x))), (4, some (63, .ds (yI b j)))] 5 ⟨rfl, zo, (vB zo), rfl⟩ ?_
     rcases ka9 (xsB (kY a i) (kV a i) (kY b j) (kV b j) (kX a i) (kU a i) (kX b j) (kU b j)) with hx15 | hx15
     ·have hx16 : ((ka0 (qJ a i b j)) ≤ (ka0 (kT a i))) := cN (kT a i) (kT b j) (ka0 (kT a i))
      have hx17 : ((ka0 (uU a i b j)) = ((uM a i b j) * 2)) := uR _ _
      have hx18 : ((uM a i b j) ≤ 64) := v9 _ _
      have hx19 : ((ka0 (uT a i b j)) = ((uL a i b j) * 2)) := uR _ _
      have hx20 : ((uL a i b j) ≤ 64) := v9 _ _
      have hx21 : (MsW (qJ a i b j)) := pP ((BsW.ms (qD : BsW a) _)) _ _
      refine kH (.no :: .no :: .call [] (.tup [.agg [iC (qG (kQ a i) (kQ b j)), .d (dl (uU a i b j) (uM a i b j)), .d (D.sl (kI (qJ a i b j)) (ka0 (qJ a i b j))), .d (dl (uT a i b j) (uL a i b j))], .c (.d (D.lit (.bool true)))]) [] 0 [] none :: qE 6 []) (Fun 134 [(oA a i), (oA b j)] (kF []) 0 (.tup [.agg [iC (qG (kQ a i) (kQ b j)), .d (dl (uU a i b j) (uM a i b j)), .d (D.sl (kI (qJ a i b j)) (ka0 (qJ a i b j))), .d (dl (uT a i b j) (uL a i b j))], .c (.d (D.lit (.bool true)))]) (kF []) 0) [(1, .e (k9 b m)), (6, oV 3 0 p 4), (8, rV 2 0), (11, rV 5 0), (12, bV true), (21, .e (k9 a n)), (22, uV n), (23, uV i), (27, .e (k9 b m)), (28, uV m), (29, uV j)] [(2, some (63, (aT a i))), (3, some (63, .ds (kN x))), (5, some (63, (k1d a i b j)))] 6 (by have h0 := (k3c (kQ a i) (kY a i) (kV a i) (kT a i) (ka0 (kT a i)) (kX a i) (kU a i) (kQ b j) (kY b j) (kV b j) (kT b j) (ka0 (kT b j)) (kX b j) (kU b j) zo zo rfl zo zo zo (BsW.ms (qD : BsW a) _) zo zo rfl zo zo zo (BsW.ms (qD : BsW b) _)); rw [hx15] at h0; exact h0) ?_
      refine AW.seq ?_
      rcases ka9 (fF (qG (kQ a i) (kQ b j)) (uU a i b j) (uM a i b j) (qJ a i b j) (uT a i b j) (uL a i b j)) with hx22 | hx22
      ·refine kS [.no, .call [] (bV true) [] 0 [] none, .no] (Fun 92 [.agg [iC (qG (kQ a i) (kQ b j)), .d (dl (uU a i b j) (uM a i b j)), .d (D.sl (kI (qJ a i b j)) (ka0 (qJ a i b j))), .d (dl (uT a i b j) (uL a i b j))]] (kF []) 0 (bV true) (kF []) 0) [(1, .e (k9 b m)), (6, oV 3 0 p 4), (8, rV 2 0), (11, rV 5 0), (12, bV true), (21, .e (k9 a n)), (22, uV n), (23, uV i), (27, .e (k9 b m)), (28, uV m), (29, uV j), (41, bV false)] (by have h0 := (j5 (qG (kQ a i) (kQ b j)) (uU a i b j) (uM a i b j) (qJ a i b j) (ka0 (qJ a i b j)) (uT a i b j) (uL a i b j) zo zo rfl zo zo zo (qD : MsW (qJ a i b j))); rw [hx22] at h0; exact h0) ?_
       refine uO ?_
       refine AW.seq ?_
       by_cases hx23 : (((p : Nat) : Int) = 64)
       ·refine kS (qE 5 [.b true, .no]) (((p : Int) = 64)) [(1, .e (k9 b m)), (6, oV 3 0 p 4), (8, rV 2 0), (11, rV 5 0), (21, .e (k9 a n)), (22, uV n), (23, uV i), (27, .e (k9 b m)), (28, uV m), (29, uV j), (48, bV true)] zo ?_
        refine zt ?_
        refine kH [.no, .no] True [(4, nV), (5, iV 3)] [] 6 trivial ?_
        obtain ⟨hz1, hz2⟩ := v24 hx1 hx2 (k7c (i := i) (j := j) zo zo (by assumption) (by exact .inr (by rw [hJ.1]; omega)))
        refine y6 (l' := [(4, qC ([] : List D) 0), (5, iV 3)]) (g' := []) (NlS.cons rfl (.e (.c .nil)) (NlS.cons rfl (.same _) NlS.nil)) NlG.nil ?_
        refine AW.ret ?_
        exact kA (.inr rfl) [] (P := (((kN (yE a b)) : List D) = ([] : List D)) ∧ (((ka0 (yE a b)) : Nat) = 0) ∧ (((eN a b) : Int) = 3)) zk ⟨(by (rw [hz1]; rfl)), (by (rw [hz1]; rfl)), (by exact hz2)⟩
       ·refine kS (qE 5 [.b false, .no]) (¬ ((p : Int) = 64)) [(1, .e (k9 b m)), (6, oV 3 0 p 4), (8, rV 2 0), (11, rV 5 0), (21, .e (k9 a n)), (22, uV n), (23, uV i), (27, .e (k9 b m)), (28, uV m), (29, uV j), (48, bV false)] zo ?_
        refine uO ?_
        refine aC [.no, .no, .no, .ap none (p + 1) (kN (x ++ ([(g8 a i b j)] : List Bx))), .no] (([iD (qG (kQ a i) (kQ b j)), dl (uU a i b j) (uM a i b j), D.sl (kI (qJ a i b j)) (ka0 (qJ a i b j)), dl (uT a i b j) (uL a i b j)].length = 1 * 4) ∧ (((kN x) : List D).length = p * 4) ∧ ((p + 1) * 80 ≤ 140737488355328) ∧ (p + 1 = (p + 1)) ∧ (((kN x) : List D) ++ [iD (qG (kQ a i) (kQ b j)), dl (uU a i b j) (uM a i b j), D.sl (kI (qJ a i b j)) (ka0 (qJ a i b j)), dl (uT a i b j) (uL a i b j)] = (kN (x ++ ([(g8 a i b j)] : List Bx))))) [(1, .e (k9 b m)), (6, oV 7 0 (p + 1) 4), (8, rV 2 0), (21, .e (k9 a n)), (22, uV n), (23, uV i), (27, .e (k9 b m)), (28, uV m), (29, uV j)] [(2, some (63, (aT a i))), (7, some (63, .ds (kN (x ++ ([(g8 a i b j)] : List Bx)))))] 8 ⟨aR, aR, zo, zo, (iW x (qG (kQ a i) (kQ b j)) (uU a i b j) (uM a i b j) (qJ a i b j) (ka0 (qJ a i b j)) (uT a i b j) (uL a i b j) (by rfl))⟩ ?_
        refine yA [.w, .no] (u3 ((j : Int) + 1)) [(1, .e (k9 b m)), (6, oV 7 0 (p + 1) 4), (8, rV 2 0), (21, .e (k9 a n)), (22, uV n), (23, uV i), (27, .e (k9 b m)), (28, uV m), (29, iV (↑j + 1))] ⟨by omega, by omega⟩ ?_
        exact kW ⟨(((j + 1) : Nat), ((p + 1) : Nat), ((x ++ ([(g8 a i b j)] : List Bx)) : List Bx)), ⟨zo, (by exact hJ.y (by assumption) (by assumption) zo), zV, (by exact hX.app (BsW.one (u5q hW _ _)))⟩⟩ [(3, 7)] (P := (kJ (kN b)) ∧ (kG m) ∧ (kG 0) ∧ (kG (p + 1)) ∧ (kG 0) ∧ (kJ (kN a)) ∧ (kG n) ∧ (kM (n : Int)) ∧ (kM (i : Int)) ∧ (kJ (kN b)) ∧ (kG m) ∧ (kM (m : Int)) ∧ (bU j) ∧ (kJ (kN (x ++ ([(g8 a i b j)] : List Bx)))) ∧ (kJ (yI a i))) zk ⟨rfl, rfl, rfl, rfl, rfl, rfl, rfl, rfl, rfl, rfl, rfl, rfl, (by rfl), rfl, rfl⟩ (show m - (j + 1) < m - j from zo)
      ·refine kS [.no, .call [] (bV false) [] 0 [] none, .no] (Fun 92 [.agg [iC (qG (kQ a i) (kQ b j)), .d (dl (uU a i b j) (uM a i b j)), .d (D.sl (kI (qJ a i b j)) (ka0 (qJ a i b j))), .d (dl (uT a i b j) (uL a i b j))]] (kF []) 0 (bV false) (kF []) 0) [(1, .e (k9 b m)), (6, oV 3 0 p 4), (8, rV 2 0), (11, rV 5 0), (12, bV true), (21, .e (k9 a n)), (22, uV n), (23, uV i), (27, .e (k9 b m)), (28, uV m), (29, uV j), (41, bV true)] (by have h0 := (j5 (qG (kQ a i) (kQ b j)) (uU a i b j) (uM a i b j) (qJ a i b j) (ka0 (qJ a i b j)) (uT a i b j) (uL a i b j) zo zo rfl zo zo zo (qD : MsW (qJ a i b j))); rw [hx22] at h0; exact h0) ?_
       refine zt ?_
       refine AW.exit ?_
       refine aC [.w, .no] (u3 ((j : Int) + 1)) [(1, .e (k9 b m)), (6, oV 3 0 p 4), (8, rV 2 0), (21, .e (k9 a n)), (22, uV n), (23, uV i), (27, .e (k9 b m)), (28, uV m), (29, iV (↑j + 1))] [(2, some (63, (aT a i))), (3, some (63, .ds (kN x)))] 6 ⟨by omega, by omega⟩ ?_
       exact kW ⟨(((j + 1) : Nat), (p : Nat), (x : List Bx)), ⟨zo, (by exact hJ.n (by assumption)), (by assumption), (by assumption)⟩⟩ [] (P := (kJ (kN b)) ∧ (kG m) ∧ (kG 0) ∧ (kG p) ∧ (kG 0) ∧ (kJ (kN a)) ∧ (kG n) ∧ (kM (n : Int)) ∧ (kM (i : Int)) ∧ (kJ (kN b)) ∧ (kG m) ∧ (kM (m : Int)) ∧ (bU j) ∧ (kJ (kN x)) ∧ (kJ (yI a i))) zk ⟨rfl, rfl, rfl, rfl, rfl, rfl, rfl, rfl, rfl, rfl, rfl, rfl, (by rfl), rfl, rfl⟩ (show m - (j + 1) < m - j from zo)
     ·have hx24 : ((ka0 (qJ a i b j)) ≤ (ka0 (kT a i))) := cN (kT a i) (kT b j) (ka0 (kT a i))
      have hx25 : ((ka0 (uU a i b j)) = ((uM a i b j) * 2)) := uR _ _
      have hx26 : ((uM a i b j) ≤ 64) := v9 _ _
      have hx27 : ((ka0 (uT a i b j)) = ((uL a i b j) * 2)) := uR _ _
      have hx28 : ((uL a i b j) ≤ 64) := v9 _ _
      have hx29 : (MsW (qJ a i b j)) := pP ((BsW.ms (qD : BsW a) _)) _ _
      refine kH (.no :: .no :: .call [] (.tup [.agg [iC (qG (kQ a i) (kQ b j)), .d (dl (uU a i b j) (uM a i b j)), .d (D.sl (kI (qJ a i b j)) (ka0 (qJ a i b j))), .d (dl (uT a i b j) (uL a i b j))], .c (.d (D.lit (.bool false)))]) [] 0 [] none :: qE 6 []) (Fun 134 [(oA a i), (oA b j)] (kF []) 0 (.tup [.agg [iC (qG (kQ a i) (kQ b j)), .d (dl (uU a i b j) (uM a i b j)), .d (D.sl (kI (qJ a i b j)) (ka0 (qJ a i b j))), .d (dl (uT a i b j) (uL a i b j))], .c (.d (D.lit (.bool false)))]) (kF []) 0) [(1, .e (k9 b m)), (6, oV 3 0 p 4), (8, rV 2 0), (11, rV 5 0), (12, bV false), (21, .e (k9 a n)), (22, uV n), (23, uV i), (27, .e (k9 b m)), (28, uV m), (29, uV j)] [(2, some (63, (aT a i))), (3, some (63, .ds (kN x))), (5, some (63, (k1d a i b j)))] 6 (by have h0 := (k3c (kQ a i) (kY a i) (kV a i) (kT a i) (ka0 (kT a i)) (kX a i) (kU a i) (kQ b j) (kY b j) (kV b j) (kT b j) (ka0 (kT b j)) (kX b j) (kU b j) zo zo rfl zo zo zo (BsW.ms (qD : BsW a) _) zo zo rfl zo zo zo (BsW.ms (qD : BsW b) _)); rw [hx15] at h0; exact h0) ?_
      refine AW.seq ?_
      rcases ka9 (fF (qG (kQ a i) (kQ b j)) (uU a i b j) (uM a i b j) (qJ a i b j) (uT a i b j) (uL a i b j)) with hx30 | hx30
      ·refine kS [.no, .call [] (bV true) [] 0 [] none, .no] (Fun 92 [.agg [iC (qG (kQ a i) (kQ b j)), .d (dl (uU a i b j) (uM a i b j)), .d (D.sl (kI (qJ a i b j)) (ka0 (qJ a i b j))), .d (dl (uT a i b j) (uL a i b j))]] (kF []) 0 (bV true) (kF []) 0) [(1, .e (k9 b m)), (6, oV 3 0 p 4), (8, rV 2 0), (11, rV 5 0), (12, bV false), (21, .e (k9 a n)), (22, uV n), (23, uV i), (27, .e (k9 b m)), (28, uV m), (29, uV j), (41, bV false)] (by have h0 := (j5 (qG (kQ a i) (kQ b j)) (uU a i b j) (uM a i b j) (qJ a i b j) (ka0 (qJ a i b j)) (uT a i b j) (uL a i b j) zo zo rfl zo zo zo (qD : MsW (qJ a i b j))); rw [hx30] at h0; exact h0) ?_
       refine uO ?_
       refine AW.seq ?_
       refine kS (qE 4 []) True [(1, .e (k9 b m)), (6, oV 3 0 p 4), (8, rV 2 0), (11, rV 5 0), (21, .e (k9 a n)), (22, uV n), (23, uV i), (27, .e (k9 b m)), (28, uV m), (29, uV j), (48, bV true)] trivial ?_
       refine zt ?_
       refine kH [.no, .no] True [(4, nV), (5, iV 3)] [] 6 trivial ?_
       obtain ⟨hz1, hz2⟩ := v24 hx1 hx2 (k7c (i := i) (j := j) zo zo (by assumption) (by exact .inl (by assumption)))
       refine y6 (l' := [(4, qC ([] : List D) 0), (5, iV 3)]) (g' := []) (NlS.cons rfl (.e (.c .nil)) (NlS.cons rfl (.same _) NlS.nil)) NlG.nil ?_
       refine AW.ret ?_
       exact kA (.inr rfl) [] (P := (((kN (yE a b)) : List D) = ([] : List D)) ∧ (((ka0 (yE a b)) : Nat) = 0) ∧ (((eN a b) : Int) = 3)) zk ⟨(by (rw [hz1]; rfl)), (by (rw [hz1]; rfl)), (by exact hz2)⟩
      ·refine kS [.no, .call [] (bV false) [] 0 [] none, .no] (Fun 92 [.agg [iC (qG (kQ a i) (kQ b j)), .d (dl (uU a i b j) (uM a i b j)), .d (D.sl (kI (qJ a i b j)) (ka0 (qJ a i b j))), .d (dl (uT a i b j) (uL a i b j))]] (kF []) 0 (bV false) (kF []) 0) [(1, .e (k9 b m)), (6, oV 3 0 p 4), (8, rV 2 0), (11, rV 5 0), (12, bV false), (21, .e (k9 a n)), (22, uV n), (23, uV i), (27, .e (k9 b m)), (28, uV m), (29, uV j), (41, bV true)] (by have h0 := (j5 (qG (kQ a i) (kQ b j)) (uU a i b j) (uM a i b j) (qJ a i b j) (ka0 (qJ a i b j)) (uT a i b j) (uL a i b j) zo zo rfl zo zo zo (qD : MsW (qJ a i b j))); rw [hx30] at h0; exact h0) ?_
       refine zt ?_
       refine AW.exit ?_
       refine aC [.w, .no] (u3 ((j : Int) + 1)) [(1, .e (k9 b m)), (6, oV 3 0 p 4), (8, rV 2 0), (21, .e (k9 a n)), (22, uV n), (23, uV i), (27, .e (k9 b m)), (28, uV m), (29, iV (↑j + 1))] [(2, some (63, (aT a i))), (3, some (63, .ds (kN x)))] 6 ⟨by omega, by omega⟩ ?_
       exact kW ⟨(((j + 1) : Nat), (p : Nat), (x : List Bx)), ⟨zo, (by exact hJ.n (by assumption)), (by assumption), (by assumption)⟩⟩ [] (P := (kJ (kN b)) ∧ (kG m) ∧ (kG 0) ∧ (kG p) ∧ (kG 0) ∧ (kJ (kN a)) ∧ (kG n) ∧ (kM (n : Int)) ∧ (kM (i : Int)) ∧ (kJ (kN b)) ∧ (kG m) ∧ (kM (m : Int)) ∧ (bU j) ∧ (kJ (kN x)) ∧ (kJ (yI a i))) zk ⟨rfl, rfl, rfl, rfl, rfl, rfl, rfl, rfl, rfl, rfl, rfl, rfl, (by rfl), rfl, rfl⟩ (show m - (j + 1) < m - j from zo)
    ·refine kH [.b false] (¬ ((j : Int) < (m : Int))) [(1, .e (k9 b m)), (6, oV 3 0 p 4), (8, rV 2 0), (21, .e (k9 a n)), (22, uV n), (23, uV i), (27, .e (k9 b m)), (28, uV m), (29, uV j), (30, bV false)] [(2, some (63, (aT a i))), (3, some (63, .ds (kN x)))] 4 zo ?_
     refine AW.seq ?_
     refine zf ?_
     refine AW.exit ?_
     refine aC [.w, .no] (u3 ((i : Int) + 1)) [(1, .e (k9 b m)), (6, oV 3 0 p 4), (21, .e (k9 a n)), (22, uV n), (23, iV (↑i + 1))] [(3, some (63, .ds (kN x)))] 4 ⟨by omega, by omega⟩ ?_
     exact kW ⟨(((i + 1) : Nat), (p : Nat), (x : List Bx)), ⟨zo, (hJ.out zo), (by assumption), (by assumption)⟩⟩ [(1, 3)] (P := (kJ (kN b)) ∧ (kG m) ∧ (kG 0) ∧ (kG p) ∧ (kJ (kN a)) ∧ (kG n) ∧ (kM (n : Int)) ∧ (bU i) ∧ (kJ (kN x))) zk ⟨rfl, rfl, rfl, rfl, rfl, rfl, rfl, (by rfl), rfl⟩ (show n - (i + 1) < n - i from zo)
   ·refine kH [.b false] (¬ ((i : Int) < (n : Int))) [(1, .e (k9 b m)), (6, oV 1 0 q 4), (21, .e (k9 a n)), (22, uV n), (23, uV i), (24, bV false)] [(1, some (63, .ds (kN o)))] 2 zo ?_
    refine AW.seq ?_
    refine zf ?_
    refine AW.exit ?_
    refine AW.freeze 1 (l' := [(1, .e (k9 b m)), (6, .e (k9 o q)), (21, .e (k9 a n)), (22, uV n), (23, uV i), (24, bV false)]) (g' := []) rfl (FzS.cons rfl (.same _) (FzS.cons rfl (.e (.c (@FzC.own 1 ((kN o) : List D) 0 q 4 true ((kN o) : List D) p9 aR))) (FzS.cons rfl (.same _) (FzS.cons rfl (.same _) (FzS.cons rfl (.same _) (FzS.cons rfl (.same _) FzS.nil)))))) FzG.nil ?_
    have hx31 : ((ka0 (bD o)) ≤ q) := (kd9 (m7 o) (Nat.le_of_eq (zo)))
    have hx32 : (((0 : Int) ≤ (jB o)) ∧ ((jB o) ≤ 1)) := hY o
    refine kH (.no :: .call [] (.tup [.c (.d (D.sl (kN (bD o)) (ka0 (bD o)))), iE (jB o)]) [] 0 [] none :: qE 4 []) _ [(4, .e (yL (bD o))), (5, iV (jB o))] [] 2 (u10 o q zo zo (qD : BsW o)) ?_
    obtain ⟨hz1, hz2⟩ := k7k hx1 hx2 hI zo
    refine AW.ret ?_
    exact kA (.inr rfl) [] (P := (((kN (yE a b)) : List D) = (kN (bD o))) ∧ (((ka0 (yE a b)) : Nat) = (ka0 (bD o))) ∧ (((eN a b) : Int) = (jB o))) zk ⟨(by (rw [hz1]; done)), (by (rw [hz1]; done)), (by exact hz2)⟩
  ·refine kS [.no, .call [] (bV true) [] 0 [] none, .no, .no, .no, .call [] (bV false) [] 0 [] none, .no, .no] ((Fun 60 [.c (.d (D.sl (kN a) n))] (kF []) 0 (bV true) (kF []) 0) ∧ (Fun 60 [.c (.d (D.sl (kN b) m))] (kF []) 0 (bV false) (kF []) 0)) [(0, .e (k9 a n)), (1, .e (k9 b m)), (20, bV true)] ⟨(by have h0 := (vY a n zo zo (qD : BsW a)); rw [hx1] at h0; exact h0), (by have h0 := (vY b m zo zo (qD : BsW b)); rw [hx2] at h0; exact h0)⟩ ?_
   refine zt ?_
   refine kS [.no, .no] True [(4, nV), (5, iV 1)] trivial ?_
   obtain ⟨hz1, hz2⟩ := v5n hx2
   refine y6 (l' := [(4, qC ([] : List D) 0), (5, iV 1)]) (g' := []) (NlS.cons rfl (.e (.c .nil)) (NlS.cons rfl (.same _) NlS.nil)) NlG.nil ?_
   refine AW.ret ?_
   exact kA (.inr rfl) [] (P := (((kN (yE a b)) : List D) = ([] : List D)) ∧ (((ka0 (yE a b)) : Nat) = 0) ∧ (((eN a b) : Int) = 1)) zk ⟨(by (rw [hz1]; rfl)), (by (rw [hz1]; rfl)), (by exact hz2)⟩
 ·refine kS [.no, .call [] (bV false) [] 0 [] none, .no, .no, .no] (Fun 60 [.c (.d (D.sl (kN a) n))] (kF []) 0 (bV false) (kF []) 0) [(0, .e (k9 a n)), (1, .e (k9 b m)), (20, bV true)] (by have h0 := (vY a n zo zo (qD : BsW a)); rw [hx1] at h0; exact h0) ?_
  refine zt ?_
  refine kS [.no, .no] True [(4, nV), (5, iV 1)] trivial ?_
  obtain ⟨hz1, hz2⟩ := v5o hx1
  refine y6 (l' := [(4, qC ([] : List D) 0), (5, iV 1)]) (g' := []) (NlS.cons rfl (.e (.c .nil)) (NlS.cons rfl (.same _) NlS.nil)) NlG.nil ?_
  refine AW.ret ?_
  exact kA (.inr rfl) [] (P := (((kN (yE a b)) : List D) = ([] : List D)) ∧ (((ka0 (yE a b)) : Nat) = 0) ∧ (((eN a b) : Int) = 1)) zk ⟨(by (rw [hz1]; rfl)), (by (rw [hz1]; rfl)), (by exact hz2)⟩
end Go.Proofs.YtbicifcgghmhaaaGreat
