/- Reduced lists, intersections. No statement is proved here. -/
import Derived.Test.YtcfmjpnffembpaaGreatZL10Q
import Derived.Test.YtcfmjpnffembpaaGreatZL10G
namespace Go.Proofs.YtcfmjpnffembpaaGreat
open Go.ChangeShapes Go.WideShapes Go.ChangeAt Go.RowKit
open Bool renaming and_false → kc7, eq_false_or_eq_true → ka6, false_and → kg9, not_true → kj6, or_true → kl9
open List renaming drop → ka3, drop_zero → kd5, getD → ka1, getD_eq_getElem?_getD → ka8, getElem?_eq_getElem → ka7, length → ka0, length_append → ka9, length_cons → kb0, length_drop → kb5, length_map → kc0, length_nil → kb3, length_replicate → kb4, length_reverse → kb9, length_set → kc1, length_take → kb2, take → ka5, take_of_length_le → kb6
open Nat renaming le_of_ble_eq_true → ka4, le_trans → ke3, mul_one → kc5, zero_le → kd8
set_option linter.unusedVariables false
set_option linter.unusedSimpArgs false
/-! chapter 10: boxes within boxes; reduced lists; intersections -/
set_option maxHeartbeats 4000000
set_option maxRecDepth 100000
def gM (a b : Int) : Int := qI .andNot .i64 a b
def nhB (ms : List (List Int)) (m : List Int) : Bool := !(d9 ms m)
theorem u4r {ms : List (List Int)} {m : List Int} (h : d9 ms m = false) : nhB ms m = true := by unfold nhB; rw [h]; rfl
theorem u4s {ms : List (List Int)} {m : List Int} (h : d9 ms m = true) : nhB ms m = false := by unfold nhB; rw [h]; rfl
def w9 (a b : List (List Int)) : Nat → Int := tA fun j => nhB b (ka1 a j [])
theorem u3v {a b : List (List Int)} {k : Nat} (h : w9 a b k = -1) (h2 : nhB b (ka1 a k []) = false) : w9 a b (k + 1) = -1 := fT h h2
theorem u3w {a b : List (List Int)} {k : Nat} (h : w9 a b k = -1) (h2 : nhB b (ka1 a k []) = true) {n : Nat} (hn : k < n) : w9 a b n = (k : Int) := gY h h2 n hn
def sgB (a b : List (List Int)) : Bool := decide (∃ m ∈ a, m ∉ b)
theorem u7h {a b : List (List Int)} {n : Nat} (hn : a.length = n) (h : 0 ≤ w9 a b n) : sgB a b = true := by
 obtain ⟨k, hk, h1⟩ := k12 h
 have hk : k < a.length := by omega
 refine decide_eq_true ⟨a[k], List.getElem_mem hk, fun e => ?_⟩
 have e2 : ka1 a k [] = a[k] := by rw [ka8, ka7 hk]; rfl
 have h1 : nhB b (ka1 a k []) = true := h1
 rw [e2, u4s (decide_eq_true e)] at h1; cases h1
theorem u7i {a b : List (List Int)} {n : Nat} (hn : a.length = n) (h : ¬ 0 ≤ w9 a b n) : sgB a b = false := by
 refine decide_eq_false fun ⟨m, hm, e⟩ => ?_
 obtain ⟨k, hk, rfl⟩ := List.mem_iff_getElem.1 hm
 have h1 := rY h k (by omega)
 have e2 : ka1 a k [] = a[k] := by rw [ka8, ka7 hk]; rfl
 have h1 : nhB b (ka1 a k []) = false := h1
 rw [e2, u4r (decide_eq_false e)] at h1; cases h1
def jP (k : Int) (r : List Int) (rn : Nat) (m : List (List Int)) (s : List Int) (sn : Nat) (k2 : Int) (r2 : List Int) (rn2 : Nat) (m2 : List (List Int)) (s2 : List Int) (sn2 : Nat) : Bool := decide (gM k k2 = 0) && (n4 (kB r rn) (kB r2 rn2) && (!(sgB m m2) && n4 (kB s sn) (kB s2 sn2)))
theorem u4m {k : Int} {r : List Int} {rn : Nat} {m : List (List Int)} {s : List Int} {sn : Nat} {k2 : Int} {r2 : List Int} {rn2 : Nat} {m2 : List (List Int)} {s2 : List Int} {sn2 : Nat} (h1 : gM k k2 = 0) (h2 : n4 (kB r rn) (kB r2 rn2) = true) (h3 : sgB m m2 = false) (h4 : n4 (kB s sn) (kB s2 sn2) = true) : jP k r rn m s sn k2 r2 rn2 m2 s2 sn2 = true := by
 unfold jP; rw [decide_eq_true h1, h2, h3, h4]; rfl
theorem u4q {k : Int} {r : List Int} {rn : Nat} {m : List (List Int)} {s : List Int} {sn : Nat} {k2 : Int} {r2 : List Int} {rn2 : Nat} {m2 : List (List Int)} {s2 : List Int} {sn2 : Nat} (h1 : ¬ gM k k2 = 0) : jP k r rn m s sn k2 r2 rn2 m2 s2 sn2 = false := by
 unfold jP; rw [decide_eq_false h1]; rfl
theorem u4o {k : Int} {r : List Int} {rn : Nat} {m : List (List Int)} {s : List Int} {sn : Nat} {k2 : Int} {r2 : List Int} {rn2 : Nat} {m2 : List (List Int)} {s2 : List Int} {sn2 : Nat} (h2 : n4 (kB r rn) (kB r2 rn2) = false) : jP k r rn m s sn k2 r2 rn2 m2 s2 sn2 = false := by
 unfold jP; rw [h2, kg9, kc7]
theorem u4p {k : Int} {r : List Int} {rn : Nat} {m : List (List Int)} {s : List Int} {sn : Nat} {k2 : Int} {r2 : List Int} {rn2 : Nat} {m2 : List (List Int)} {s2 : List Int} {sn2 : Nat} (h3 : sgB m m2 = true) : jP k r rn m s sn k2 r2 rn2 m2 s2 sn2 = false := by
 unfold jP; rw [h3, kj6, kg9, kc7, kc7]
theorem u4n {k : Int} {r : List Int} {rn : Nat} {m : List (List Int)} {s : List Int} {sn : Nat} {k2 : Int} {r2 : List Int} {rn2 : Nat} {m2 : List (List Int)} {s2 : List Int} {sn2 : Nat} (h4 : n4 (kB s sn) (kB s2 sn2) = false) : jP k r rn m s sn k2 r2 rn2 m2 s2 sn2 = false := by
 unfold jP; rw [h4, kc7, kc7, kc7]
def niE (xs : List Bx) (i : Nat) (ys : List Bx) (j : Nat) : Bool := jP (k9 xs i) (qF xs i) (qB xs i) (kY xs i) (qG xs i) (qC xs i) (k9 ys j) (qF ys j) (qB ys j) (kY ys j) (qG ys j) (qC ys j)
def mX (xs : List Bx) (i j : Nat) : Bool := decide (j ≠ i) && (niE xs i xs j && (decide (j < i) || !(niE xs j xs i)))
def goB (xs : List Bx) (i : Nat) : Bool := decide (∃ j, j < xs.length ∧ mX xs i j = true)
theorem u2g {xs : List Bx} {i j : Nat} (hj : j < xs.length) (h : mX xs i j = true) : goB xs i = true := decide_eq_true ⟨j, hj, h⟩
theorem u5r {xs : List Bx} {i : Nat} (h : ∀ j, j < xs.length → mX xs i j = false) : goB xs i = false := decide_eq_false fun ⟨j, hj, e⟩ => by
 have := h j hj; rw [this] at e; cases e
theorem u5u {xs : List Bx} {i j : Nat} (h0 : ¬ j = i) (h1 : niE xs i xs j = true) (h2 : j < i) : mX xs i j = true := by
 unfold mX; rw [decide_eq_true h0, h1, decide_eq_true h2]; rfl
theorem u5t {xs : List Bx} {i j : Nat} (h0 : ¬ j = i) (h1 : niE xs i xs j = true) (h2 : niE xs j xs i = false) : mX xs i j = true := by
 unfold mX; rw [decide_eq_true h0, h1, h2, Bool.not_false, kl9]; rfl
theorem u5s {xs : List Bx} {i j : Nat} (h0 : j = i) : mX xs i j = false := by
 unfold mX; rw [decide_eq_false (fun e => e h0)]; rfl
theorem u5v {xs : List Bx} {i j : Nat} (h1 : niE xs i xs j = false) : mX xs i j = false := by
 unfold mX; rw [h1, kg9, kc7]
theorem u5w {xs : List Bx} {i j : Nat} (h1 : niE xs j xs i = true) (h2 : ¬ j < i) : mX xs i j = false := by
 unfold mX; rw [h1, decide_eq_false h2, kj6, Bool.or_false, kc7, kc7]
def bxP (xs : List Bx) (i : Nat) : Bx := uO (k9 xs i) (qF xs i) (qB xs i) (kY xs i) (qG xs i) (qC xs i)
def s5 (xs : List Bx) : Nat → List Bx
 | 0 => []
 | i + 1 => if goB xs i = true then s5 xs i else s5 xs i ++ [bxP xs i]
theorem u41 {xs o : List Bx} {i : Nat} (h : s5 xs i = o) (h1 : goB xs i = true) : s5 xs (i + 1) = o := by subst h; exact if_pos h1
theorem u42 {xs o : List Bx} {i : Nat} (h : s5 xs i = o) (h1 : goB xs i = false) : s5 xs (i + 1) = o ++ [uO (k9 xs i) (qF xs i) (qB xs i) (kY xs i) (qG xs i) (qC xs i)] := by subst h; exact if_neg (by rw [h1]; decide)
def yA (xs : List Bx) : List Bx := if aJ xs = true then s5 xs xs.length else []
def aA (xs : List Bx) : Int := if aJ xs = true then 0 else 1
theorem u00 {xs : List Bx} (h : aJ xs = true) : yA xs = s5 xs xs.length ∧ aA xs = 0 := ⟨if_pos h, if_pos h⟩
theorem u01 {xs : List Bx} (h : aJ xs = false) : yA xs = [] ∧ aA xs = 1 := ⟨if_neg (by rw [h]; decide), if_neg (by rw [h]; decide)⟩
theorem k3l {xs : List Bx} (h : BsW xs) : ∀ i, BsW (s5 xs i)
 | 0 => BsW.nil
 | i + 1 => by
  rw [s5]; split
  ·exact k3l h i
  ·exact (k3l h i).app (BsW.one (h.box i))
theorem xY (xs : List Bx) : ∀ i, ka0 (s5 xs i) ≤ i
 | 0 => Nat.le_refl _
 | i + 1 => by
  have := xY xs i
  rw [s5]; split
  ·omega
  ·rw [ka9, List.length_singleton]; omega
theorem mO {xs : List Bx} (h : BsW xs) : BsW (yA xs) := by unfold yA; split; exact k3l h _; exact BsW.nil
theorem e7 (xs : List Bx) : ka0 (yA xs) ≤ ka0 xs := by unfold yA; split; exact xY xs _; exact kd8 _
theorem b7 (xs : List Bx) : 0 ≤ aA xs ∧ aA xs ≤ 1 := by unfold aA; split <;> decide
def dM (l : List Int) (v : Int) : Nat → List Int
 | 0 => []
 | k + 1 => if v < ka1 l (k * 2 + 1) 0 then dM l v k ++ [max (ka1 l (k * 2) 0) (v + 1), ka1 l (k * 2 + 1) 0] else dM l v k
def lC (l : List Int) (v : Int) (k : Nat) : Nat := (dM l v k).length / 2
theorem u98 {l o : List Int} {v x y : Int} {k : Nat} (h : dM l v k = o) (h1 : v < ka1 l (k * 2 + 1) 0) (hx : x = max (ka1 l (k * 2) 0) (v + 1)) (hy : y = ka1 l (k * 2 + 1) 0) : dM l v (k + 1) = o ++ [x, y] := by subst h; rw [hx, hy]; exact if_pos h1
theorem u99 {l o : List Int} {v : Int} {k : Nat} (h : dM l v k = o) (h1 : ¬ v < ka1 l (k * 2 + 1) 0) : dM l v (k + 1) = o := by subst h; exact if_neg h1
theorem sH (l : List Int) (v : Int) (k : Nat) : ka0 (dM l v k) = lC l v k * 2 ∧ lC l v k ≤ k := by
 have h : ∃ j, j ≤ k ∧ ka0 (dM l v k) = j * 2 := by
  induction k with
  | zero => exact ⟨0, Nat.le_refl _, rfl⟩
  | succ k ih =>
   obtain ⟨j, hj, e⟩ := ih
   rw [dM]; split
   ·exact ⟨j + 1, by omega, by rw [ka9, e]; simp only [kb0, kb3]; omega⟩
   ·exact ⟨j, by omega, e⟩
 obtain ⟨j, hj, e⟩ := h
 unfold lC; omega
def mU (r : List Int) (rn : Nat) (r2 : List Int) (rn2 : Nat) : Bool := decide (qP (kB r rn) (kB r2 rn2) < 64) || decide (qP (kB (dM r (ka1 (uM (kB r rn) (kB r2 rn2)) 127 0) rn) (lC r (ka1 (uM (kB r rn) (kB r2 rn2)) 127 0) rn)) (kB r2 rn2) = 0)
theorem u53 {r : List Int} {rn : Nat} {r2 : List Int} {rn2 : Nat} (h : qP (kB r rn) (kB r2 rn2) < 64) : mU r rn r2 rn2 = true := by unfold mU; rw [decide_eq_true h]; rfl
theorem u8g {r : List Int} {rn : Nat} {r2 : List Int} {rn2 : Nat} (h : qP (kB (dM r (ka1 (uM (kB r rn) (kB r2 rn2)) 127 0) rn) (lC r (ka1 (uM (kB r rn) (kB r2 rn2)) 127 0) rn)) (kB r2 rn2) = 0) : mU r rn r2 rn2 = true := by unfold mU; rw [decide_eq_true h, kl9]
theorem u8h {r : List Int} {rn : Nat} {r2 : List Int} {rn2 : Nat} (h1 : ¬ qP (kB r rn) (kB r2 rn2) < 64) (h : ¬ qP (kB (dM r (ka1 (uM (kB r rn) (kB r2 rn2)) 127 0) rn) (lC r (ka1 (uM (kB r rn) (kB r2 rn2)) 127 0) rn)) (kB r2 rn2) = 0) : mU r rn r2 rn2 = false := by unfold mU; rw [decide_eq_false h, decide_eq_false h1]; rfl
theorem u06 {a b : List Int} {n m : Nat} (ha : a.length = n * 2) (hb : b.length = m * 2) : cP (qV (uM (kB a n) (kB b m))) := by
 unfold uM; rw [p8]
 have h := k0x (aI ha) (aI hb)
 have e := List.take_append_drop 64 (a8 (qV (kB a n)) (qV (kB b m)))
 generalize ka5 64 (a8 (qV (kB a n)) (qV (kB b m))) = t at *
 generalize ka3 64 (a8 (qV (kB a n)) (qV (kB b m))) = d at *
 rw [← e] at h
 clear e
 induction t with
 | nil => trivial
 | cons p t ih => exact ⟨h.1, fun q hq => h.2.1 q (List.mem_append_left _ hq), ih h.2.2⟩
theorem u5g {a b : List Int} {n m : Nat} (ha : a.length = n * 2) (hb : b.length = m * 2) (h : 64 ≤ qP (kB a n) (kB b m)) : 0 ≤ ka1 (uM (kB a n) (kB b m)) 127 0 ∧ ka1 (uM (kB a n) (kB b m)) 127 0 ≤ 2147483647 := by
 have h1 := fB (u06 ha hb) _ ((v7 (yM (kB a n) (kB b m))).2 ⟨63, by omega, rfl⟩)
 unfold eX at h1
 have h1 : 0 ≤ ka1 (uM (kB a n) (kB b m)) 126 0 ∧ ka1 (uM (kB a n) (kB b m)) 126 0 ≤ ka1 (uM (kB a n) (kB b m)) 127 0 ∧ ka1 (uM (kB a n) (kB b m)) 127 0 ≤ 2147483647 := h1
 omega
def xsB (r : List Int) (rn : Nat) (r2 : List Int) (rn2 : Nat) (s : List Int) (sn : Nat) (s2 : List Int) (sn2 : Nat) : Bool := mU r rn r2 rn2 && mU s sn s2 sn2
theorem u75 {r : List Int} {rn : Nat} {r2 : List Int} {rn2 : Nat} {s : List Int} {sn : Nat} {s2 : List Int} {sn2 : Nat} (h1 : mU r rn r2 rn2 = true) (h2 : mU s sn s2 sn2 = true) : xsB r rn r2 rn2 s sn s2 sn2 = true := by unfold xsB; rw [h1, h2]; rfl
theorem u3h {r : List Int} {rn : Nat} {r2 : List Int} {rn2 : Nat} {s : List Int} {sn : Nat} {s2 : List Int} {sn2 : Nat} (h1 : mU r rn r2 rn2 = false) : xsB r rn r2 rn2 s sn s2 sn2 = false := by unfold xsB; rw [h1]; rfl
theorem u76 {r : List Int} {rn : Nat} {r2 : List Int} {rn2 : Nat} {s : List Int} {sn : Nat} {s2 : List Int} {sn2 : Nat} (h2 : mU s sn s2 sn2 = false) : xsB r rn r2 rn2 s sn s2 sn2 = false := by unfold xsB; rw [h2, kc7]
/-! the boxes made of each box of one list with each box of another one -/
def crB (xs ys : List Bx) (i j : Nat) : Bx := uO (uR (k9 xs i) (k9 ys j)) (uM (kB (qF xs i) (qB xs i)) (kB (qF ys j) (qB ys j))) (qP (kB (qF xs i) (qB xs i)) (kB (qF ys j) (qB ys j))) (uP (kY xs i) (kY ys j) (ka0 (kY xs i))) (uM (kB (qG xs i) (qC xs i)) (kB (qG ys j) (qC ys j))) (qP (kB (qG xs i) (qC xs i)) (kB (qG ys j) (qC ys j)))
def crV (xs ys : List Bx) (i j : Nat) : Bool := dK (uR (k9 xs i) (k9 ys j)) (uM (kB (qF xs i) (qB xs i)) (kB (qF ys j) (qB ys j))) (qP (kB (qF xs i) (qB xs i)) (kB (qF ys j) (qB ys j))) (uP (kY xs i) (kY ys j) (ka0 (kY xs i))) (uM (kB (qG xs i) (qC xs i)) (kB (qG ys j) (qC ys j))) (qP (kB (qG xs i) (qC xs i)) (kB (qG ys j) (qC ys j)))
def crS (xs ys : List Bx) (i j : Nat) : Bool := xsB (qF xs i) (qB xs i) (qF ys j) (qB ys j) (qG xs i) (qC xs i) (qG ys j) (qC ys j)
theorem u0m {xs ys : List Bx} (h : BsW xs) (i j : Nat) : BxW (crB xs ys i j) := by
 refine ⟨yM _ _, yM _ _, ke3 (a9 _ _) (by decide), ke3 (a9 _ _) (by decide), ?_, gK (h.ms i) _ _⟩
 have h1 := aO (kY xs i) (kY ys j) (ka0 (kY xs i))
 have h2 := h.at i
 show ka0 (uP _ _ _) ≤ _
 omega
def cjL (xs ys : List Bx) (i : Nat) (o : List Bx) : Nat → List Bx
 | 0 => o
 | j + 1 => if crV xs ys i j = true then cjL xs ys i o j ++ [crB xs ys i j] else cjL xs ys i o j
def ciL (xs ys : List Bx) : Nat → List Bx
 | 0 => []
 | i + 1 => cjL xs ys i (ciL xs ys i) (ka0 ys)
def ljB (xs ys : List Bx) (i : Nat) (b : Bool) : Nat → Bool
 | 0 => b
 | j + 1 => ljB xs ys i b j && (!(crV xs ys i j) || (crS xs ys i j && decide (ka0 (cjL xs ys i (ciL xs ys i) j) ≠ 64)))
def liB (xs ys : List Bx) : Nat → Bool
 | 0 => true
 | i + 1 => ljB xs ys i (liB xs ys i) (ka0 ys)
theorem k0s (xs ys : List Bx) (i : Nat) (b : Bool) (j : Nat) : ∀ k, ljB xs ys i b j = false → ljB xs ys i b (j + k) = false
 | 0, h => h
 | k + 1, h => by
  show (ljB xs ys i b (j + k) && _) = false
  rw [k0s xs ys i b j k h]; rfl
theorem u59 (xs ys : List Bx) (i : Nat) : ∀ k, ljB xs ys i false k = false
 | 0 => rfl
 | k + 1 => by
  show (ljB xs ys i false k && _) = false
  rw [u59 xs ys i k]; rfl
theorem k0v (xs ys : List Bx) (i : Nat) : ∀ k, liB xs ys i = false → liB xs ys (i + k) = false
 | 0, h => h
 | k + 1, h => by
  show ljB xs ys (i + k) (liB xs ys (i + k)) _ = false
  rw [k0v xs ys i k h]; exact u59 ..
theorem zI {xs ys : List Bx} {i j : Nat} (hi : i < ka0 xs) (hj : j < ka0 ys) (h1 : crV xs ys i j = true) (h2 : crS xs ys i j = false ∨ ka0 (cjL xs ys i (ciL xs ys i) j) = 64) : liB xs ys (ka0 xs) = false := by
 have a1 : ljB xs ys i (liB xs ys i) (j + 1) = false := by
  show (_ && (!(crV xs ys i j) || _)) = false
  rw [h1]
  rcases h2 with h2 | h2
  ·rw [h2]; simp
  ·rw [h2]; simp
 have a2 := k0s xs ys i (liB xs ys i) (j + 1) (ka0 ys - (j + 1)) a1
 rw [show j + 1 + (ka0 ys - (j + 1)) = ka0 ys by omega] at a2
 have a3 := k0v xs ys (i + 1) (ka0 xs - (i + 1)) a2
 rw [show i + 1 + (ka0 xs - (i + 1)) = ka0 xs by omega] at a3
 exact a3
def CI (xs ys : List Bx) (i : Nat) (o : List Bx) : Prop := ciL xs ys i = o ∧ liB xs ys i = true
def CJ2 (xs ys : List Bx) (i j : Nat) (o : List Bx) : Prop := cjL xs ys i (ciL xs ys i) j = o ∧ ljB xs ys i (liB xs ys i) j = true
theorem CI.zero (xs ys : List Bx) : CI xs ys 0 [] := ⟨rfl, rfl⟩
theorem CI.in {xs ys : List Bx} {i : Nat} {o : List Bx} (h : CI xs ys i o) : CJ2 xs ys i 0 o := h
theorem CJ2.out {xs ys : List Bx} {i j : Nat} {o : List Bx} (h : CJ2 xs ys i j o) (hj : j = ka0 ys) : CI xs ys (i + 1) o := by subst hj; exact h
theorem CJ2.n {xs ys : List Bx} {i j : Nat} {o : List Bx} (h : CJ2 xs ys i j o) (h1 : crV xs ys i j = false) : CJ2 xs ys i (j + 1) o := by
 refine ⟨?_, ?_⟩
 ·show (if crV xs ys i j = true then _ else _) = o
  rw [if_neg (by rw [h1]; decide)]; exact h.1
 ·show (ljB xs ys i (liB xs ys i) j && _) = true
  rw [h.2, h1]; rfl
theorem CJ2.y {xs ys : List Bx} {i j : Nat} {o : List Bx} (h : CJ2 xs ys i j o) (h1 : crV xs ys i j = true) (h2 : crS xs ys i j = true) (h3 : ¬ ka0 o = 64) : CJ2 xs ys i (j + 1) (o ++ [crB xs ys i j]) := by
 refine ⟨?_, ?_⟩
 ·show (if crV xs ys i j = true then _ else _) = _
  rw [if_pos h1, h.1]
 ·show (ljB xs ys i (liB xs ys i) j && (!(crV xs ys i j) || (crS xs ys i j && decide _))) = true
  rw [h.2, h1, h2, h.1, decide_eq_true h3]; rfl
def ixV (a b : List Bx) : Bool := aJ a && aJ b
def yB (a b : List Bx) : List Bx := if ixV a b = true then (if liB a b (ka0 a) = true then yA (ciL a b (ka0 a)) else []) else []
def aM (a b : List Bx) : Int := if ixV a b = true then (if liB a b (ka0 a) = true then aA (ciL a b (ka0 a)) else 3) else 1
theorem u5f {a b : List Bx} (h : aJ a = false) : yB a b = [] ∧ aM a b = 1 := by unfold yB aM ixV; rw [h]; exact ⟨rfl, rfl⟩
theorem u5e {a b : List Bx} (h : aJ b = false) : yB a b = [] ∧ aM a b = 1 := by unfold yB aM ixV; rw [h, kc7]; exact ⟨rfl, rfl⟩
theorem u28 {a b : List Bx} (h1 : aJ a = true) (h2 : aJ b = true) (h : liB a b (ka0 a) = false) : yB a b = [] ∧ aM a b = 3 := by unfold yB aM ixV; rw [h1, h2, h]; exact ⟨rfl, rfl⟩
theorem u5d {a b o : List Bx} {i : Nat} (h1 : aJ a = true) (h2 : aJ b = true) (h : CI a b i o) (hi : i = ka0 a) : yB a b = yA o ∧ aM a b = aA o := by
 subst hi
 unfold yB aM ixV; rw [h1, h2, h.1, h.2]; exact ⟨rfl, rfl⟩
theorem k6j {xs ys : List Bx} (h : BsW xs) (i : Nat) {o : List Bx} (ho : BsW o) : ∀ j, BsW (cjL xs ys i o j)
 | 0 => ho
 | j + 1 => by
  rw [cjL]; split
  ·exact (k6j h i ho j).app (BsW.one (u0m h i j))
  ·exact k6j h i ho j
theorem u0p {xs ys : List Bx} (h : BsW xs) : ∀ i, BsW (ciL xs ys i)
 | 0 => BsW.nil
 | i + 1 => k6j h i (u0p h i) _
theorem oW {a b : List Bx} (h : BsW a) : BsW (yB a b) := by
 unfold yB; split
 ·split
  ·exact mO (u0p h _)
  ·exact BsW.nil
 ·exact BsW.nil
theorem d8 (a b : List Bx) : 0 ≤ aM a b ∧ aM a b ≤ 3 := by
 unfold aM; split
 ·split
  ·have := b7 (ciL a b (ka0 a)); omega
  ·decide
 ·decide
theorem u1q (xs : List Bx) : ka0 (yA xs) ≤ 64 := by
 unfold yA; split
 ·rename_i h
  have h1 := (of_decide_eq_true h).1
  exact ke3 (xY xs _) h1
 ·exact kd8 _
theorem gV (a b : List Bx) : ka0 (yB a b) ≤ 64 := by
 unfold yB; split
 ·split
  ·exact u1q _
  ·exact kd8 _
 ·exact kd8 _
def siX (k r : Int) (m : List Int) (z : Int) : List Bx := [uO (IntKind.i64.wrap (1 * ((2 ^ k.toNat : Nat) : Int))) [r, r] 1 [m] [z, z] 1]
def bY (k r : Int) (m : List Int) (z : Int) : List Bx := if 1 ≤ k ∧ k ≤ 7 then kH (siX k r m z) else []
theorem k3f (k r : Int) (m : List Int) (z : Int) (h : ka0 m ≤ 1000000) : BsW (siX k r m z) := BsW.one ⟨rfl, rfl, (by decide : 1 ≤ 1000000), (by decide : 1 ≤ 1000000), (by decide : 1 ≤ 1000000), fun l hl => by rw [List.mem_singleton.1 hl]; exact h⟩
theorem k09 (k r : Int) (m : List Int) (z : Int) (h : ka0 m ≤ 1000000) : BsW (bY k r m z) := by
 unfold bY; split; exact aB (k3f k r m z h); exact BsW.nil
theorem pX (k r : Int) (m : List Int) (z : Int) : ka0 (bY k r m z) ≤ 1 := by
 unfold bY; split; exact c9 _; exact kd8 _
theorem k7v {m : List (List Int)} {z : Nat} (h : z < m.length) : kL (ka5 (z + 1) m) = kL (ka5 z m ++ [ka1 m z []]) := by
 rw [List.take_succ_eq_append_getElem h, ka8, ka7 h]; rfl
theorem u0y (a : List Int) (n : Nat) (k : Int) (r : List Int) (rn : Nat) (m : List (List Int)) (c : Nat) (s : List Int) (sn : Nat) (hn : ka0 a = n) (h1 : n ≤ 1000000) (hc : ka0 m = c) (h3 : c ≤ 1000000) (hW : MsW m) : Fun 124 [.c (.d (D.sl (dI .i64 a) n)), .c (.ptr 0 0)] (kE [(0, some (59, .ds [iD k, D.sl (dI .i64 r) rn, D.sl (kL m) c, D.sl (dI .i64 s) sn]))]) 1 (qS (D.lit (.bool (nhB m a)))) (kE [(0, some (59, .ds [iD k, D.sl (dI .i64 r) rn, D.sl (kL m) c, D.sl (dI .i64 s) sn]))]) 1 := by
 refine Fun.mk (n := 9) Tryz.func124 rfl rfl (ka4 rfl) ?_
 intro cx hcx
 refine kI [.no] True [(0, sV .i64 a n), (1, rV 0 0)] [(0, some (59, .ds [iD k, dl r rn, D.sl (kL m) c, dl s sn]))] 1 trivial ?_
 rcases ka6 (d9 m a) with hx1 | hx1
 ·refine kN [.no, .no, .no, .call [] (bV true) [] 0 [] none, .no, .no] (Fun 96 [.c (.d (D.sl (kL m) c)), .c (.d (dl a n))] (kE []) 0 (bV true) (kE []) 0) [(3, bV false)] (by have h0 := (i7 m c a n zo zo zo zo (kZ : MsW m)); rw [hx1] at h0; exact h0) ?_
  refine AW.ret ?_
  exact kC (.inr rfl) [] (P := ((nhB m a) = false) ∧ (kJ [iD k, dl r rn, D.sl (kL m) c, dl s sn])) zk ⟨(by exact u4s (by assumption)), rfl⟩
 ·refine kN [.no, .no, .no, .call [] (bV false) [] 0 [] none, .no, .no] (Fun 96 [.c (.d (D.sl (kL m) c)), .c (.d (dl a n))] (kE []) 0 (bV false) (kE []) 0) [(3, bV true)] (by have h0 := (i7 m c a n zo zo zo zo (kZ : MsW m)); rw [hx1] at h0; exact h0) ?_
  refine AW.ret ?_
  exact kC (.inr rfl) [] (P := ((nhB m a) = true) ∧ (kJ [iD k, dl r rn, D.sl (kL m) c, dl s sn])) zk ⟨(by exact u4r (by assumption)), rfl⟩
abbrev bS (k : Int) (r : List Int) (rn : Nat) (m : List (List Int)) (c : Nat) (s : List Int) (sn : Nat) : BC := .ds [iD k, D.sl (dI .i64 r) rn, D.sl (kL m) c, D.sl (dI .i64 s) sn]
theorem u0x (a : List (List Int)) (n : Nat) (k : Int) (r : List Int) (rn : Nat) (m : List (List Int)) (c : Nat) (s : List Int) (sn : Nat) (hn : ka0 a = n) (h1 : n ≤ 1000000) (hA : MsW a) (hc : ka0 m = c) (h3 : c ≤ 1000000) (hW : MsW m) : Fun 146 [.c (.d (D.sl (kL a) n)), .c (.fn 124 [(0, 0)])] (kE [(0, some (59, .ds [iD k, D.sl (dI .i64 r) rn, D.sl (kL m) c, D.sl (dI .i64 s) sn]))]) 1 (iV (w9 a m n)) (kE [(0, some (59, .ds [iD k, D.sl (dI .i64 r) rn, D.sl (kL m) c, D.sl (dI .i64 s) sn]))]) 1 := by
 refine Fun.mk (n := 19) Tryz.func146 rfl rfl (ka4 rfl) ?_
 intro cx hcx
 refine kI [.no] True [(0, qJ (kL a) n), (1, .e (.c (.fn 124 [(0, 0)])))] [(0, some (59, (bS k r rn m c s sn)))] 1 trivial ?_
 refine AW.seq ?_
 refine kN [.no, .no, .no] True [(0, qJ (kL a) n), (1, .e (.c (.fn 124 [(0, 0)]))), (7, uV n), (8, iV 0)] trivial ?_
 refine AW.block ?_
 refine kU 1 hcx (fun (x : {x : Nat // match x with | z => (z ≤ n) ∧ (w9 a m z = -1)}) => match x with | ⟨z, _⟩ => (⟨[(0, qJ (kL a) n), (1, .e (.c (.fn 124 [(0, 0)]))), (7, uV n), (8, uV z)], [(0, some (59, (bS k r rn m c s sn)))], 1⟩ : ES)) (fun x => match x with | ⟨z, _⟩ => n - z) ⟨(0 : Nat), ⟨zo, rfl⟩⟩ [] (P := (kJ (kL a)) ∧ (kG n) ∧ (kM (n : Int)) ∧ (kM 0) ∧ (kJ [iD k, dl r rn, D.sl (kL m) c, dl s sn])) zk ⟨rfl, rfl, rfl, rfl, rfl⟩ ?_
 rintro ⟨z, hinv0⟩
 obtain ⟨hk, hi⟩ : (z ≤ n) ∧ (w9 a m z = -1) := hinv0
 refine qN (l := [(0, qJ (kL a) n), (1, .e (.c (.fn 124 [(0, 0)]))), (7, uV n), (8, uV z)]) (g := [(0, some (59, (bS k r rn m c s sn)))]) (nx := 1) rfl rfl rfl ?_
 by_cases hx1 : (((z : Nat) : Int) < ((n : Nat) : Int))
 ·refine kI [.b true] (((z : Int) < (n : Int))) [(0, qJ (kL a) n), (1, .e (.c (.fn 124 [(0, 0)]))), (7, uV n), (8, uV z), (9, bV true)] [(0, some (59, (bS k r rn m c s sn)))] 1 zo ?_
  refine AW.seq ?_
  refine yW ?_
  refine AW.seq ?_
  refine AW.block ?_
  refine kN [.no, .no] True [(0, qJ (kL a) n), (1, .e (.c (.fn 124 [(0, 0)]))), (5, uV z), (7, uV n), (8, uV z)] trivial ?_
  rcases ka6 (nhB m (ka1 a z ([] : List Int))) with hx3 | hx3
  ·have hx4 : ((ka0 (ka1 a z ([] : List Int))) ≤ 1000000) := MsW.at (kZ : MsW a) _
   refine kN [.no, .no, .no, .n z, .d (dl (ka1 a z ([] : List Int)) (ka0 (ka1 a z ([] : List Int)))), .call [0] (bV true) [(0, some (59, (bS k r rn m c s sn)))] 1 [] none] ((kM (z : Int)) ∧ (z < n) ∧ ((ka3 z (kL a))[0]? = some (dl (ka1 a z ([] : List Int)) (ka0 (ka1 a z ([] : List Int))))) ∧ (Fun 124 [.c (.d (dl (ka1 a z ([] : List Int)) (ka0 (ka1 a z ([] : List Int))))), .c (.ptr 0 0)] (kE [(0, some (59, (bS k r rn m c s sn)))]) 1 (bV true) (kE [(0, some (59, (bS k r rn m c s sn)))]) 1)) [(0, qJ (kL a) n), (1, .e (.c (.fn 124 [(0, 0)]))), (5, uV z), (7, uV n), (8, uV z), (16, bV true)] ⟨rfl, zo, (yE _ _ zo), (by have h0 := (u0y (ka1 a z ([] : List Int)) (ka0 (ka1 a z ([] : List Int))) k r rn m c s sn rfl zo zo zo (kZ : MsW m)); rw [hx3] at h0; exact h0)⟩ ?_
   refine zt ?_
   refine kN [.no, .no] True [(4, uV z)] trivial ?_
   refine AW.ret ?_
   exact kC (.inr rfl) [] (P := (((w9 a m n) : Int) = (z : Int)) ∧ (kJ [iD k, dl r rn, D.sl (kL m) c, dl s sn])) zk ⟨(by exact u3w hi (by assumption) zo), rfl⟩
  ·have hx5 : ((ka0 (ka1 a z ([] : List Int))) ≤ 1000000) := MsW.at (kZ : MsW a) _
   refine kN [.no, .no, .no, .n z, .d (dl (ka1 a z ([] : List Int)) (ka0 (ka1 a z ([] : List Int)))), .call [0] (bV false) [(0, some (59, (bS k r rn m c s sn)))] 1 [] none] ((kM (z : Int)) ∧ (z < n) ∧ ((ka3 z (kL a))[0]? = some (dl (ka1 a z ([] : List Int)) (ka0 (ka1 a z ([] : List Int))))) ∧ (Fun 124 [.c (.d (dl (ka1 a z ([] : List Int)) (ka0 (ka1 a z ([] : List Int))))), .c (.ptr 0 0)] (kE [(0, some (59, (bS k r rn m c s sn)))]) 1 (bV false) (kE [(0, some (59, (bS k r rn m c s sn)))]) 1)) [(0, qJ (kL a) n), (1, .e (.c (.fn 124 [(0, 0)]))), (5, uV z), (7, uV n), (8, uV z), (16, bV false)] ⟨rfl, zo, (yE _ _ zo), (by have h0 := (u0y (ka1 a z ([] : List Int)) (ka0 (ka1 a z ([] : List Int))) k r rn m c s sn rfl zo zo zo (kZ : MsW m)); rw [hx3] at h0; exact h0)⟩ ?_
   refine q8 ?_
   refine uJ [.w, .no] (uZ ((z : Int) + 1)) [(0, qJ (kL a) n), (1, .e (.c (.fn 124 [(0, 0)]))), (7, uV n), (8, iV (↑z + 1))] ⟨by omega, by omega⟩ ?_
   exact kX ⟨((z + 1) : Nat), ⟨zo, (u3v hi (by assumption))⟩⟩ [] (P := (kJ (kL a)) ∧ (kG n) ∧ (kM (n : Int)) ∧ (vX z) ∧ (kJ [iD k, dl r rn, D.sl (kL m) c, dl s sn])) zk ⟨rfl, rfl, rfl, (by rfl), rfl⟩ (show n - (z + 1) < n - z from zo)
 ·refine kI [.b false] (¬ ((z : Int) < (n : Int))) [(0, qJ (kL a) n), (1, .e (.c (.fn 124 [(0, 0)]))), (7, uV n), (8, uV z), (9, bV false)] [(0, some (59, (bS k r rn m c s sn)))] 1 zo ?_
  refine AW.seq ?_
  refine zf ?_
  refine AW.exit ?_
  refine kI [.no] True [(4, iV (-1))] [(0, some (59, (bS k r rn m c s sn)))] 1 trivial ?_
  refine AW.ret ?_
  exact kC (.inr rfl) [] (P := (((w9 a m n) : Int) = (-1)) ∧ (kJ [iD k, dl r rn, D.sl (kL m) c, dl s sn])) zk ⟨(by (rw [show n = z by omega]; exact hi)), rfl⟩
theorem k7b (a : List (List Int)) (n : Nat) (k : Int) (r : List Int) (rn : Nat) (m : List (List Int)) (c : Nat) (s : List Int) (sn : Nat) (hn : ka0 a = n) (h1 : n ≤ 1000000) (hA : MsW a) (hc : ka0 m = c) (h3 : c ≤ 1000000) (hW : MsW m) : Fun 126 [.c (.d (D.sl (kL a) n)), .c (.fn 124 [(0, 0)])] (kE [(0, some (59, .ds [iD k, D.sl (dI .i64 r) rn, D.sl (kL m) c, D.sl (dI .i64 s) sn]))]) 1 (qS (D.lit (.bool (sgB a m)))) (kE [(0, some (59, .ds [iD k, D.sl (dI .i64 r) rn, D.sl (kL m) c, D.sl (dI .i64 s) sn]))]) 1 := by
 refine Fun.mk (n := 9) Tryz.func126 rfl rfl (ka4 rfl) ?_
 intro cx hcx
 refine kI [.no] True [(0, qJ (kL a) n), (1, .e (.c (.fn 124 [(0, 0)])))] [(0, some (59, .ds [iD k, dl r rn, D.sl (kL m) c, dl s sn]))] 1 trivial ?_
 by_cases hx1 : ((0 : Int) ≤ (w9 a m n))
 ·refine kN [.no, .no, .call [0] (iV (w9 a m n)) [(0, some (59, .ds [iD k, dl r rn, D.sl (kL m) c, dl s sn]))] 1 [] none, .b true, .no] ((_) ∧ (((0 : Int) ≤ (w9 a m n)))) [(4, bV true)] ⟨(u0x a n k r rn m c s sn zo zo (kZ : MsW a) zo zo (kZ : MsW m)), zo⟩ ?_
  refine AW.ret ?_
  exact kC (.inr rfl) [] (P := ((sgB a m) = true) ∧ (kJ [iD k, dl r rn, D.sl (kL m) c, dl s sn])) zk ⟨(by exact u7h hn zo), rfl⟩
 ·refine kN [.no, .no, .call [0] (iV (w9 a m n)) [(0, some (59, .ds [iD k, dl r rn, D.sl (kL m) c, dl s sn]))] 1 [] none, .b false, .no] ((_) ∧ (¬ ((0 : Int) ≤ (w9 a m n)))) [(4, bV false)] ⟨(u0x a n k r rn m c s sn zo zo (kZ : MsW a) zo zo (kZ : MsW m)), zo⟩ ?_
  refine AW.ret ?_
  exact kC (.inr rfl) [] (P := ((sgB a m) = false) ∧ (kJ [iD k, dl r rn, D.sl (kL m) c, dl s sn])) zk ⟨(by exact u7i hn zo), rfl⟩
abbrev cX (k2 : Int) (r2 : List Int) (rn2 : Nat) (m2 : List (List Int)) (c2 : Nat) (s2 : List Int) (sn2 : Nat) : BC := .ds [iD k2, D.sl (dI .i64 r2) rn2, D.sl (kL m2) c2, D.sl (dI .i64 s2) sn2]
theorem k2x (k : Int) (r : List Int) (rn : Nat) (m : List (List Int)) (c : Nat) (s : List Int) (sn : Nat) (k2 : Int) (r2 : List Int) (rn2 : Nat) (m2 : List (List Int)) (c2 : Nat) (s2 : List Int) (sn2 : Nat) (hr : ka0 r = rn * 2) (hs : ka0 s = sn * 2) (hc : ka0 m = c) (h1 : rn ≤ 1000000) (h2 : sn ≤ 1000000) (h3 : c ≤ 1000000) (hW : MsW m) (hr2 : ka0 r2 = rn2 * 2) (hs2 : ka0 s2 = sn2 * 2) (hc2 : ka0 m2 = c2) (h12 : rn2 ≤ 1000000) (h22 : sn2 ≤ 1000000) (h32 : c2 ≤ 1000000) (hW2 : MsW m2) : Fun 80 [.agg [iC k, .d (D.sl (dI .i64 r) rn), .d (D.sl (kL m) c), .d (D.sl (dI .i64 s) sn)], .agg [iC k2, .d (D.sl (dI .i64 r2) rn2), .d (D.sl (kL m2) c2), .d (D.sl (dI .i64 s2) sn2)]] (kE []) 0 (qS (D.lit (.bool (jP k r rn m s sn k2 r2 rn2 m2 s2 sn2)))) (kE []) 0 := by
 refine Fun.mk (n := 34) Tryz.func80 rfl rfl (ka4 rfl) ?_
 intro cx hcx
 refine kI [.no, .no, .no] True [(2, rV 0 0), (3, rV 1 0)] [(0, some (59, .ds [iD k, dl r rn, D.sl (kL m) c, dl s sn])), (1, some (59, (cX k2 r2 rn2 m2 c2 s2 sn2)))] 2 trivial ?_
 refine kN [.no, .no] True [(2, rV 0 0), (3, rV 1 0), (5, .e (.c (.fn 124 [(1, 0)])))] trivial ?_
 by_cases hx1 : ((gM k k2) = 0)
 ·rcases ka6 (n4 (kB r rn) (kB r2 rn2)) with hx2 | hx2
  ·rcases ka6 (sgB m m2) with hx3 | hx3
   ·refine kI (kT 4 (.i (gM k k2) :: .b true :: kT 5 (.call [] (bV true) [] 0 [] none :: kT 5 (.call [1] (bV true) [(0, some (59, (cX k2 r2 rn2 m2 c2 s2 sn2)))] 1 [] none :: kT 5 [])))) ((qI .andNot .i64 k k2 = (gM k k2)) ∧ (((gM k k2) = 0)) ∧ (Fun 125 [.agg [.d (dl r rn)], .agg [.d (dl r2 rn2)]] (kE []) 0 (bV true) (kE []) 0) ∧ (Fun 126 [.c (.d (D.sl (kL m) c)), .c (.fn 124 [(0, 0)])] (kE [(0, some (59, (cX k2 r2 rn2 m2 c2 s2 sn2)))]) 1 (bV true) (kE [(0, some (59, (cX k2 r2 rn2 m2 c2 s2 sn2)))]) 1)) [(4, bV false)] [] 2 ⟨rfl, zo, (by have h0 := (dQ r r2 rn rn2 zo zo zo zo); rw [hx2] at h0; exact h0), (by have h0 := (k7b m c k2 r2 rn2 m2 c2 s2 sn2 zo zo (kZ : MsW m) zo zo (kZ : MsW m2)); rw [hx3] at h0; exact h0)⟩ ?_
    refine AW.ret ?_
    exact kC (.inr rfl) [] (P := ((jP k r rn m s sn k2 r2 rn2 m2 s2 sn2) = false)) zk (by exact u4p (by assumption))
   ·rcases ka6 (n4 (kB s sn) (kB s2 sn2)) with hx4 | hx4
    ·refine kI (kT 4 (.i (gM k k2) :: .b true :: kT 5 (.call [] (bV true) [] 0 [] none :: kT 5 (.call [1] (bV false) [(0, some (59, (cX k2 r2 rn2 m2 c2 s2 sn2)))] 1 [] none :: kT 7 [.call [] (bV true) [] 0 [] none, .no, .no])))) ((qI .andNot .i64 k k2 = (gM k k2)) ∧ (((gM k k2) = 0)) ∧ (Fun 125 [.agg [.d (dl r rn)], .agg [.d (dl r2 rn2)]] (kE []) 0 (bV true) (kE []) 0) ∧ (Fun 126 [.c (.d (D.sl (kL m) c)), .c (.fn 124 [(0, 0)])] (kE [(0, some (59, (cX k2 r2 rn2 m2 c2 s2 sn2)))]) 1 (bV false) (kE [(0, some (59, (cX k2 r2 rn2 m2 c2 s2 sn2)))]) 1) ∧ (Fun 125 [.agg [.d (dl s sn)], .agg [.d (dl s2 sn2)]] (kE []) 0 (bV true) (kE []) 0)) [(4, bV true)] [] 2 ⟨rfl, zo, (by have h0 := (dQ r r2 rn rn2 zo zo zo zo); rw [hx2] at h0; exact h0), (by have h0 := (k7b m c k2 r2 rn2 m2 c2 s2 sn2 zo zo (kZ : MsW m) zo zo (kZ : MsW m2)); rw [hx3] at h0; exact h0), (by have h0 := (dQ s s2 sn sn2 zo zo zo zo); rw [hx4] at h0; exact h0)⟩ ?_
     refine AW.ret ?_
     exact kC (.inr rfl) [] (P := ((jP k r rn m s sn k2 r2 rn2 m2 s2 sn2) = true)) zk (by exact u4m zo (by assumption) (by assumption) (by assumption))
    ·refine kI (kT 4 (.i (gM k k2) :: .b true :: kT 5 (.call [] (bV true) [] 0 [] none :: kT 5 (.call [1] (bV false) [(0, some (59, (cX k2 r2 rn2 m2 c2 s2 sn2)))] 1 [] none :: kT 7 [.call [] (bV false) [] 0 [] none, .no, .no])))) ((qI .andNot .i64 k k2 = (gM k k2)) ∧ (((gM k k2) = 0)) ∧ (Fun 125 [.agg [.d (dl r rn)], .agg [.d (dl r2 rn2)]] (kE []) 0 (bV true) (kE []) 0) ∧ (Fun 126 [.c (.d (D.sl (kL m) c)), .c (.fn 124 [(0, 0)])] (kE [(0, some (59, (cX k2 r2 rn2 m2 c2 s2 sn2)))]) 1 (bV false) (kE [(0, some (59, (cX k2 r2 rn2 m2 c2 s2 sn2)))]) 1) ∧ (Fun 125 [.agg [.d (dl s sn)], .agg [.d (dl s2 sn2)]] (kE []) 0 (bV false) (kE []) 0)) [(4, bV false)] [] 2 ⟨rfl, zo, (by have h0 := (dQ r r2 rn rn2 zo zo zo zo); rw [hx2] at h0; exact h0), (by have h0 := (k7b m c k2 r2 rn2 m2 c2 s2 sn2 zo zo (kZ : MsW m) zo zo (kZ : MsW m2)); rw [hx3] at h0; exact h0), (by have h0 := (dQ s s2 sn sn2 zo zo zo zo); rw [hx4] at h0; exact h0)⟩ ?_
     refine AW.ret ?_
     exact kC (.inr rfl) [] (P := ((jP k r rn m s sn k2 r2 rn2 m2 s2 sn2) = false)) zk (by exact u4n (by assumption))
  ·refine kI (kT 4 (.i (gM k k2) :: .b true :: kT 5 (.call [] (bV false) [] 0 [] none :: kT 6 []))) ((qI .andNot .i64 k k2 = (gM k k2)) ∧ (((gM k k2) = 0)) ∧ (Fun 125 [.agg [.d (dl r rn)], .agg [.d (dl r2 rn2)]] (kE []) 0 (bV false) (kE []) 0)) [(4, bV false)] [] 2 ⟨rfl, zo, (by have h0 := (dQ r r2 rn rn2 zo zo zo zo); rw [hx2] at h0; exact h0)⟩ ?_
   refine AW.ret ?_
   exact kC (.inr rfl) [] (P := ((jP k r rn m s sn k2 r2 rn2 m2 s2 sn2) = false)) zk (by exact u4o (by assumption))
 ·refine kI (kT 4 (.i (gM k k2) :: .b false :: kT 7 [])) ((qI .andNot .i64 k k2 = (gM k k2)) ∧ (¬ ((gM k k2) = 0))) [(4, bV false)] [] 2 ⟨rfl, zo⟩ ?_
  refine AW.ret ?_
  exact kC (.inr rfl) [] (P := ((jP k r rn m s sn k2 r2 rn2 m2 s2 sn2) = false)) zk (by exact u4q zo)
theorem k79 (xs : List Bx) (n i : Nat) (hn : ka0 xs = n) (h1 : n ≤ 1000000) (hW : BsW xs) (hi : i < n) : Fun 39 [.c (.d (D.sl (kP xs) n)), iE ((i : Nat) : Int)] (kE []) 0 (qS (D.lit (.bool (goB xs i)))) (kE []) 0 := by
 refine Fun.mk (n := 40) Tryz.func39 rfl rfl (ka4 rfl) ?_
 intro cx hcx
 refine kI [.no] True [(0, .e (kQ xs n)), (1, uV i)] [] 0 trivial ?_
 refine AW.seq ?_
 refine kN [.no, .no, .no] True [(0, .e (kQ xs n)), (1, uV i), (7, .e (kQ xs n)), (8, uV n), (9, iV 0)] trivial ?_
 refine AW.block ?_
 refine kU 0 hcx (fun (x : {x : Nat // match x with | z => (z ≤ n) ∧ (∀ j, j < z → mX xs i j = false)}) => match x with | ⟨z, _⟩ => (⟨[(0, .e (kQ xs n)), (1, uV i), (7, .e (kQ xs n)), (8, uV n), (9, uV z)], [], 0⟩ : ES)) (fun x => match x with | ⟨z, _⟩ => n - z) ⟨(0 : Nat), ⟨zo, (fun j hj => absurd hj (Nat.not_lt_zero j))⟩⟩ [] (P := (kJ (kP xs)) ∧ (kG n) ∧ (kM (i : Int)) ∧ (kJ (kP xs)) ∧ (kG n) ∧ (kM (n : Int)) ∧ (kM 0)) zk ⟨rfl, rfl, rfl, rfl, rfl, rfl, rfl⟩ ?_
 rintro ⟨z, hinv0⟩
 obtain ⟨hz, ha⟩ : (z ≤ n) ∧ (∀ j, j < z → mX xs i j = false) := hinv0
 refine qN (l := [(0, .e (kQ xs n)), (1, uV i), (7, .e (kQ xs n)), (8, uV n), (9, uV z)]) (g := []) (nx := 0) rfl rfl rfl ?_
 by_cases hx1 : (((z : Nat) : Int) < ((n : Nat) : Int))
 ·refine kI [.b true] (((z : Int) < (n : Int))) [(0, .e (kQ xs n)), (1, uV i), (7, .e (kQ xs n)), (8, uV n), (9, uV z), (10, bV true)] [] 0 zo ?_
  refine AW.seq ?_
  refine yW ?_
  refine AW.seq ?_
  refine AW.block ?_
  obtain ⟨hx2, hx3, hx4, hx5, hx6⟩ := BsW.at (kZ : BsW xs) (z)
  refine kI [.no, .n z, .ds (uY xs z), .no, .no, .no] ((kM (z : Int)) ∧ (z < n) ∧ (ka5 4 (ka3 (z * 4) (kP xs)) = (uY xs z)) ∧ (((uY xs z) : List D).length = 4)) [(0, .e (kQ xs n)), (1, uV i), (5, uV z), (6, rV 0 0), (7, .e (kQ xs n)), (8, uV n), (9, uV z)] [(0, some (59, .ds (uY xs z)))] 1 ⟨rfl, zo, (yF zo), rfl⟩ ?_
  by_cases hx7 : (((z : Nat) : Int) ≠ ((i : Nat) : Int))
  ·rcases ka6 (jP (k9 xs i) (qF xs i) (qB xs i) (kY xs i) (qG xs i) (qC xs i) (k9 xs z) (qF xs z) (qB xs z) (kY xs z) (qG xs z) (qC xs z)) with hx13 | hx13
   ·by_cases hx19 : (((z : Nat) : Int) < ((i : Nat) : Int))
    ·obtain ⟨hx20, hx21, hx22, hx23, hx24⟩ := BsW.at (kZ : BsW xs) (i)
     refine kI [.no, .no, .b true, .no, .no, .no, .n i, .ds (uY xs i), .no, .call [] (bV true) [] 0 [] none, .no, .no, .no, .no, .b true, .no, .no, .no] ((((z : Int) ≠ (i : Int))) ∧ (kM (i : Int)) ∧ (i < n) ∧ (ka5 4 (ka3 (i * 4) (kP xs)) = (uY xs i)) ∧ (((uY xs i) : List D).length = 4) ∧ (Fun 80 [(b8 xs i), (b8 xs z)] (kE []) 0 (bV true) (kE []) 0) ∧ (((z : Int) < (i : Int)))) [(0, .e (kQ xs n)), (1, uV i), (7, .e (kQ xs n)), (8, uV n), (9, uV z), (38, bV true)] [] 1 ⟨zo, rfl, zo, (yF zo), rfl, (by have h0 := (k2x (k9 xs i) (qF xs i) (qB xs i) (kY xs i) (ka0 (kY xs i)) (qG xs i) (qC xs i) (k9 xs z) (qF xs z) (qB xs z) (kY xs z) (ka0 (kY xs z)) (qG xs z) (qC xs z) zo zo rfl zo zo zo (BsW.ms (kZ : BsW xs) _) zo zo rfl zo zo zo (BsW.ms (kZ : BsW xs) _)); rw [hx13] at h0; exact h0), zo⟩ ?_
     refine zt ?_
     refine kN [.no] True [(4, bV true)] trivial ?_
     refine AW.ret ?_
     exact kC (.inr rfl) [] (P := ((goB xs i) = true)) zk (by exact u2g (j := z) zo (by exact u5u zo (by assumption) zo))
    ·rcases ka6 (jP (k9 xs z) (qF xs z) (qB xs z) (kY xs z) (qG xs z) (qC xs z) (k9 xs i) (qF xs i) (qB xs i) (kY xs i) (qG xs i) (qC xs i)) with hx30 | hx30
     ·obtain ⟨hx31, hx32, hx33, hx34, hx35⟩ := BsW.at (kZ : BsW xs) (i)
      refine kI (.no :: .no :: .b true :: .no :: .no :: .no :: .n i :: .ds (uY xs i) :: .no :: .call [] (bV true) [] 0 [] none :: kT 4 (.b false :: kT 4 [.n i, .ds (uY xs i), .call [] (bV true) [] 0 [] none, .no, .no, .no])) ((((z : Int) ≠ (i : Int))) ∧ (kM (i : Int)) ∧ (i < n) ∧ (ka5 4 (ka3 (i * 4) (kP xs)) = (uY xs i)) ∧ (((uY xs i) : List D).length = 4) ∧ (Fun 80 [(b8 xs i), (b8 xs z)] (kE []) 0 (bV true) (kE []) 0) ∧ (¬ ((z : Int) < (i : Int))) ∧ (kM (i : Int)) ∧ (i < n) ∧ (ka5 4 (ka3 (i * 4) (kP xs)) = (uY xs i)) ∧ (((uY xs i) : List D).length = 4) ∧ (Fun 80 [(b8 xs z), (b8 xs i)] (kE []) 0 (bV true) (kE []) 0)) [(0, .e (kQ xs n)), (1, uV i), (7, .e (kQ xs n)), (8, uV n), (9, uV z), (38, bV false)] [] 1 ⟨zo, rfl, zo, (yF zo), rfl, (by have h0 := (k2x (k9 xs i) (qF xs i) (qB xs i) (kY xs i) (ka0 (kY xs i)) (qG xs i) (qC xs i) (k9 xs z) (qF xs z) (qB xs z) (kY xs z) (ka0 (kY xs z)) (qG xs z) (qC xs z) zo zo rfl zo zo zo (BsW.ms (kZ : BsW xs) _) zo zo rfl zo zo zo (BsW.ms (kZ : BsW xs) _)); rw [hx13] at h0; exact h0), zo, rfl, zo, (yF zo), rfl, (by have h0 := (k2x (k9 xs z) (qF xs z) (qB xs z) (kY xs z) (ka0 (kY xs z)) (qG xs z) (qC xs z) (k9 xs i) (qF xs i) (qB xs i) (kY xs i) (ka0 (kY xs i)) (qG xs i) (qC xs i) zo zo rfl zo zo zo (BsW.ms (kZ : BsW xs) _) zo zo rfl zo zo zo (BsW.ms (kZ : BsW xs) _)); rw [hx30] at h0; exact h0)⟩ ?_
      refine q8 ?_
      refine uJ [.w, .no] (uZ ((z : Int) + 1)) [(0, .e (kQ xs n)), (1, uV i), (7, .e (kQ xs n)), (8, uV n), (9, iV (↑z + 1))] ⟨by omega, by omega⟩ ?_
      exact kX ⟨((z + 1) : Nat), ⟨zo, (fun j hj => (Nat.lt_succ_iff_lt_or_eq.1 hj).elim (ha j) (fun e9 => by subst e9; exact u5w (by assumption) zo))⟩⟩ [] (P := (kJ (kP xs)) ∧ (kG n) ∧ (kM (i : Int)) ∧ (kJ (kP xs)) ∧ (kG n) ∧ (kM (n : Int)) ∧ (vX z)) zk ⟨rfl, rfl, rfl, rfl, rfl, rfl, (by rfl)⟩ (show n - (z + 1) < n - z from zo)
     ·obtain ⟨hx36, hx37, hx38, hx39, hx40⟩ := BsW.at (kZ : BsW xs) (i)
      refine kI (.no :: .no :: .b true :: .no :: .no :: .no :: .n i :: .ds (uY xs i) :: .no :: .call [] (bV true) [] 0 [] none :: kT 4 (.b false :: kT 4 [.n i, .ds (uY xs i), .call [] (bV false) [] 0 [] none, .no, .no, .no])) ((((z : Int) ≠ (i : Int))) ∧ (kM (i : Int)) ∧ (i < n) ∧ (ka5 4 (ka3 (i * 4) (kP xs)) = (uY xs i)) ∧ (((uY xs i) : List D).length = 4) ∧ (Fun 80 [(b8 xs i), (b8 xs z)] (kE []) 0 (bV true) (kE []) 0) ∧ (¬ ((z : Int) < (i : Int))) ∧ (kM (i : Int)) ∧ (i < n) ∧ (ka5 4 (ka3 (i * 4) (kP xs)) = (uY xs i)) ∧ (((uY xs i) : List D).length = 4) ∧ (Fun 80 [(b8 xs z), (b8 xs i)] (kE []) 0 (bV false) (kE []) 0)) [(0, .e (kQ xs n)), (1, uV i), (7, .e (kQ xs n)), (8, uV n), (9, uV z), (38, bV true)] [] 1 ⟨zo, rfl, zo, (yF zo), rfl, (by have h0 := (k2x (k9 xs i) (qF xs i) (qB xs i) (kY xs i) (ka0 (kY xs i)) (qG xs i) (qC xs i) (k9 xs z) (qF xs z) (qB xs z) (kY xs z) (ka0 (kY xs z)) (qG xs z) (qC xs z) zo zo rfl zo zo zo (BsW.ms (kZ : BsW xs) _) zo zo rfl zo zo zo (BsW.ms (kZ : BsW xs) _)); rw [hx13] at h0; exact h0), zo, rfl, zo, (yF zo), rfl, (by have h0 := (k2x (k9 xs z) (qF xs z) (qB xs z) (kY xs z) (ka0 (kY xs z)) (qG xs z) (qC xs z) (k9 xs i) (qF xs i) (qB xs i) (kY xs i) (ka0 (kY xs i)) (qG xs i) (qC xs i) zo zo rfl zo zo zo (BsW.ms (kZ : BsW xs) _) zo zo rfl zo zo zo (BsW.ms (kZ : BsW xs) _)); rw [hx30] at h0; exact h0)⟩ ?_
      refine zt ?_
      refine kN [.no] True [(4, bV true)] trivial ?_
      refine AW.ret ?_
      exact kC (.inr rfl) [] (P := ((goB xs i) = true)) zk (by exact u2g (j := z) zo (by exact u5t zo (by assumption) (by assumption)))
   ·obtain ⟨hx41, hx42, hx43, hx44, hx45⟩ := BsW.at (kZ : BsW xs) (i)
    refine kI [.no, .no, .b true, .no, .no, .no, .n i, .ds (uY xs i), .no, .call [] (bV false) [] 0 [] none, .no, .no, .no] ((((z : Int) ≠ (i : Int))) ∧ (kM (i : Int)) ∧ (i < n) ∧ (ka5 4 (ka3 (i * 4) (kP xs)) = (uY xs i)) ∧ (((uY xs i) : List D).length = 4) ∧ (Fun 80 [(b8 xs i), (b8 xs z)] (kE []) 0 (bV false) (kE []) 0)) [(0, .e (kQ xs n)), (1, uV i), (7, .e (kQ xs n)), (8, uV n), (9, uV z), (38, bV false)] [] 1 ⟨zo, rfl, zo, (yF zo), rfl, (by have h0 := (k2x (k9 xs i) (qF xs i) (qB xs i) (kY xs i) (ka0 (kY xs i)) (qG xs i) (qC xs i) (k9 xs z) (qF xs z) (qB xs z) (kY xs z) (ka0 (kY xs z)) (qG xs z) (qC xs z) zo zo rfl zo zo zo (BsW.ms (kZ : BsW xs) _) zo zo rfl zo zo zo (BsW.ms (kZ : BsW xs) _)); rw [hx13] at h0; exact h0)⟩ ?_
    refine q8 ?_
    refine uJ [.w, .no] (uZ ((z : Int) + 1)) [(0, .e (kQ xs n)), (1, uV i), (7, .e (kQ xs n)), (8, uV n), (9, iV (↑z + 1))] ⟨by omega, by omega⟩ ?_
    exact kX ⟨((z + 1) : Nat), ⟨zo, (fun j hj => (Nat.lt_succ_iff_lt_or_eq.1 hj).elim (ha j) (fun e9 => by subst e9; exact u5v (by assumption)))⟩⟩ [] (P := (kJ (kP xs)) ∧ (kG n) ∧ (kM (i : Int)) ∧ (kJ (kP xs)) ∧ (kG n) ∧ (kM (n : Int)) ∧ (vX z)) zk ⟨rfl, rfl, rfl, rfl, rfl, rfl, (by rfl)⟩ (show n - (z + 1) < n - z from zo)
  ·refine kI (.no :: .no :: .b false :: kT 4 []) (¬ ((z : Int) ≠ (i : Int))) [(0, .e (kQ xs n)), (1, uV i), (7, .e (kQ xs n)), (8, uV n), (9, uV z), (38, bV false)] [] 1 zo ?_
   refine q8 ?_
   refine uJ [.w, .no] (uZ ((z : Int) + 1)) [(0, .e (kQ xs n)), (1, uV i), (7, .e (kQ xs n)), (8, uV n), (9, iV (↑z + 1))] ⟨by omega, by omega⟩ ?_
   exact kX ⟨((z + 1) : Nat), ⟨zo, (fun j hj => (Nat.lt_succ_iff_lt_or_eq.1 hj).elim (ha j) (fun e9 => by subst e9; exact u5s zo))⟩⟩ [] (P := (kJ (kP xs)) ∧ (kG n) ∧ (kM (i : Int)) ∧ (kJ (kP xs)) ∧ (kG n) ∧ (kM (n : Int)) ∧ (vX z)) zk ⟨rfl, rfl, rfl, rfl, rfl, rfl, (by rfl)⟩ (show n - (z + 1) < n - z from zo)
 ·refine kI [.b false] (¬ ((z : Int) < (n : Int))) [(0, .e (kQ xs n)), (1, uV i), (7, .e (kQ xs n)), (8, uV n), (9, uV z), (10, bV false)] [] 0 zo ?_
  refine AW.seq ?_
  refine zf ?_
  refine AW.exit ?_
  refine kI [.no] True [(4, bV false)] [] 0 trivial ?_
  refine AW.ret ?_
  exact kC (.inr rfl) [] (P := ((goB xs i) = false)) zk (by exact u5r (fun j hj => ha j zo))
theorem pH {p : Prop} (h : p := by rw [kd5, kb6 (by (simp only [qH, qE, uA, ka9, kb0, kb3, kb2, kb5, kb4, kc1, kc0, kb9, kc5] <;> omega))]) : p := h
theorem aR {p : Prop} (h : p := by (simp only [qH, qE, uA, ka9, kb0, kb3, kb2, kb5, kb4, kc1, kc0, kb9, kc5] <;> omega)) : p := h
theorem k7a (l : List Int) (n : Nat) (hl : ka0 l = n * 2) (hb : n ≤ 1000000) : Fun 81 [.agg [.d (D.sl (dI .i64 l) n)]] (kE []) 0 (.e (.agg [.d (D.sl (dI .i64 l) n)])) (kE []) 0 := by
 refine Fun.mk (n := 7) Tryz.func81 rfl rfl (ka4 rfl) ?_
 intro cx hcx
 refine kI [.no, .no] True [(1, rV 0 0), (2, rV 1 0)] [(0, some (56, .ds [dl l n])), (1, some (56, .ds [qR]))] 2 trivial ?_
 refine kI [.no, .no, .call [] (oV 0 0 n 2) [(0, some (77, .ds (dI .i64 l)))] 1 [] none, .no, .no] _ [(2, rV 1 0)] [(1, some (56, .cs [.own 2 0 n 2 true])), (2, some (77, .ds (dI .i64 l)))] 3 (k9i l n zo zo) ?_
 refine AW.freeze 2 (l' := [(2, rV 1 0)]) (g' := [(1, some (56, .ds [dl l n]))]) rfl (FzS.cons rfl (.same _) FzS.nil) (FzG.to (bc := .cs [.own 2 0 n 2 true]) rfl (by rfl) (FzL.cons (@FzC.own 2 ((dI .i64 l) : List D) 0 n 2 true ((dI .i64 l) : List D) pH aR) FzL.nil) FzG.nil) ?_
 refine AW.ret ?_
 exact kC (.inr rfl) [] (P := (kJ (dI .i64 l)) ∧ (kG n)) zk ⟨rfl, rfl⟩
theorem k9j (m : List (List Int)) (c : Nat) (hc : ka0 m = c) (h3 : c ≤ 1000000) (hW : MsW m) : Fun 82 [.c (.d (D.sl (kL m) c)), .c (.fn 56 [])] (kE []) 0 (qJ (kL m) c) (kE []) 0 := by
 refine Fun.mk (n := 22) Tryz.func82 rfl rfl (ka4 rfl) ?_
 intro cx hcx
 refine kI [.no] True [(0, qJ (kL m) c), (1, .e (.c (.fn 56 [])))] [] 0 trivial ?_
 refine kN [.no] True [(0, qJ (kL m) c), (1, .e (.c (.fn 56 []))), (5, nV)] trivial ?_
 refine AW.seq ?_
 refine kN [.no, .no, .no] True [(1, .e (.c (.fn 56 []))), (5, nV), (8, qJ (kL m) c), (9, uV c), (10, iV 0)] trivial ?_
 refine AW.block ?_
 refine AW.adoptS 5 1 23 rfl ?_
 refine kU 0 hcx (fun (x : {x : Nat // match x with | z => (z ≤ c)}) => match x with | ⟨z, _⟩ => (⟨[(1, .e (.c (.fn 56 []))), (5, oV 1 0 z 1), (8, qJ (kL m) c), (9, uV c), (10, uV z)], [(1, some (23, .ds (kL (ka5 z m))))], 2⟩ : ES)) (fun x => match x with | ⟨z, _⟩ => c - z) ⟨(0 : Nat), (show ((0 : Nat) ≤ c) from zo)⟩ [(1, 0)] (P := (kG 0) ∧ (kG 0) ∧ (kJ (kL m)) ∧ (kG c) ∧ (kM (c : Int)) ∧ (kM 0) ∧ (((kL (ka5 0 m)) : List D) = ([] : List D))) zk ⟨rfl, rfl, rfl, rfl, rfl, rfl, (by rfl)⟩ ?_
 rintro ⟨z, hinv0⟩
 have hz : (z ≤ c) := hinv0
 refine qN (l := [(1, .e (.c (.fn 56 []))), (5, oV 1 0 z 1), (8, qJ (kL m) c), (9, uV c), (10, uV z)]) (g := [(1, some (23, .ds (kL (ka5 z m))))]) (nx := 2) rfl rfl rfl ?_
 by_cases hx1 : (((z : Nat) : Int) < ((c : Nat) : Int))
 ·refine kI [.b true] (((z : Int) < (c : Int))) [(1, .e (.c (.fn 56 []))), (5, oV 1 0 z 1), (8, qJ (kL m) c), (9, uV c), (10, uV z), (11, bV true)] [(1, some (23, .ds (kL (ka5 z m))))] 2 zo ?_
  refine AW.seq ?_
  refine yW ?_
  refine AW.seq ?_
  refine AW.block ?_
  have hx2 : ((ka0 (ka1 m z ([] : List Int))) ≤ 1000000) := MsW.at (kZ : MsW m) _
  refine kN [.n z, .d (dl (ka1 m z ([] : List Int)) (ka0 (ka1 m z ([] : List Int)))), .no] ((kM (z : Int)) ∧ (z < c) ∧ ((ka3 z (kL m))[0]? = some (dl (ka1 m z ([] : List Int)) (ka0 (ka1 m z ([] : List Int)))))) [(1, .e (.c (.fn 56 []))), (5, oV 1 0 z 1), (7, sV .i64 (ka1 m z ([] : List Int)) (ka0 (ka1 m z ([] : List Int)))), (8, qJ (kL m) c), (9, uV c), (10, uV z)] ⟨rfl, zo, (yE _ _ zo)⟩ ?_
  refine aD [.no, .no, .no, (.fz (.call [] (oV 0 0 (ka0 (ka1 m z ([] : List Int))) 1) [(0, some (3, .ds (dI .i64 (ka1 m z ([] : List Int)))))] 1 [] none)), .no, .ap none (z + 1) (kL ((ka5 z m) ++ ([(ka1 m z ([] : List Int))] : List (List Int)))), .no] ((_) ∧ (((dI .i64 (ka1 m z ([] : List Int))) : List D).length = (ka0 (ka1 m z ([] : List Int))) * 1) ∧ ([dl (ka1 m z ([] : List Int)) (ka0 (ka1 m z ([] : List Int)))].length = 1 * 1) ∧ (((kL (ka5 z m)) : List D).length = z * 1) ∧ ((z + 1) * 24 ≤ 140737488355328) ∧ (z + 1 = (z + 1)) ∧ (((kL (ka5 z m)) : List D) ++ [dl (ka1 m z ([] : List Int)) (ka0 (ka1 m z ([] : List Int)))] = (kL ((ka5 z m) ++ ([(ka1 m z ([] : List Int))] : List (List Int)))))) [(1, .e (.c (.fn 56 []))), (5, oV 4 0 (z + 1) 1), (8, qJ (kL m) c), (9, uV c), (10, uV z)] [(4, some (23, .ds (kL ((ka5 z m) ++ ([(ka1 m z ([] : List Int))] : List (List Int))))))] 5 ⟨(cU (ka1 m z ([] : List Int)) (ka0 (ka1 m z ([] : List Int))) rfl zo), aR, aR, aR, zo, zo, (iJ (ka5 z m) (ka1 m z ([] : List Int)) (ka0 (ka1 m z ([] : List Int))) (by rfl))⟩ ?_
  refine uJ [.w, .no] (uZ ((z : Int) + 1)) [(1, .e (.c (.fn 56 []))), (5, oV 4 0 (z + 1) 1), (8, qJ (kL m) c), (9, uV c), (10, iV (↑z + 1))] ⟨by omega, by omega⟩ ?_
  exact kX ⟨((z + 1) : Nat), (show ((z + 1) ≤ c) from zo)⟩ [(1, 4)] (P := (kG 0) ∧ (kG (z + 1)) ∧ (kJ (kL m)) ∧ (kG c) ∧ (kM (c : Int)) ∧ (vX z) ∧ (((kL (ka5 (z + 1) m)) : List D) = (kL ((ka5 z m) ++ ([(ka1 m z ([] : List Int))] : List (List Int)))))) zk ⟨rfl, rfl, rfl, rfl, rfl, (by rfl), (by (rw [k7v (by omega)]))⟩ (show c - (z + 1) < c - z from zo)
 ·refine kI [.b false] (¬ ((z : Int) < (c : Int))) [(1, .e (.c (.fn 56 []))), (5, oV 1 0 z 1), (8, qJ (kL m) c), (9, uV c), (10, uV z), (11, bV false)] [(1, some (23, .ds (kL (ka5 z m))))] 2 zo ?_
  refine AW.seq ?_
  refine zf ?_
  refine AW.exit ?_
  refine kI [.no, .no] True [(4, oV 1 0 z 1)] [(1, some (23, .ds (kL (ka5 z m))))] 2 trivial ?_
  refine AW.freeze 1 (l' := [(4, qJ (kL (ka5 z m)) z)]) (g' := []) rfl (FzS.cons rfl (.e (.c (@FzC.own 1 ((kL (ka5 z m)) : List D) 0 z 1 true ((kL (ka5 z m)) : List D) (by rw [kd5, kc5, kb6 (by (simp only [qH, qE, uA, ka9, kb0, kb3, kb2, kb5, kb4, kc1, kc0, kb9, kc5] <;> omega))]) aR))) FzS.nil) FzG.nil ?_
  have hz1 : ka5 z m = m := kb6 (by omega)
  refine AW.ret ?_
  exact kC (.inr rfl) [] (P := (((kL m) : List D) = (kL (ka5 z m))) ∧ ((c : Nat) = z)) zk ⟨(by (rw [hz1]; done)), zo⟩
abbrev u1f : BC := .ds [iD 0, D.lit (.slice none 0 0), D.lit (.slice none 0 0), D.lit (.slice none 0 0)]
theorem u3b (k : Int) (r : List Int) (rn : Nat) (m : List (List Int)) (c : Nat) (s : List Int) (sn : Nat) (hr : ka0 r = rn * 2) (hs : ka0 s = sn * 2) (hc : ka0 m = c) (h1 : rn ≤ 1000000) (h2 : sn ≤ 1000000) (h3 : c ≤ 1000000) (hW : MsW m) : Fun 40 [.agg [iC k, .d (D.sl (dI .i64 r) rn), .d (D.sl (kL m) c), .d (D.sl (dI .i64 s) sn)]] (kE []) 0 (.e (.agg [iC k, .d (D.sl (dI .i64 r) rn), .d (D.sl (kL m) c), .d (D.sl (dI .i64 s) sn)])) (kE []) 0 := by
 refine Fun.mk (n := 16) Tryz.func40 rfl rfl (ka4 rfl) ?_
 intro cx hcx
 refine kI [.no, .no] True [(1, rV 0 0), (2, rV 1 0)] [(0, some (59, .ds [iD k, dl r rn, D.sl (kL m) c, dl s sn])), (1, some (59, u1f))] 2 trivial ?_
 refine kN [.no, .no, .call [] (.e (.agg [.d (dl r rn)])) [] 0 [] none, .no, .no] _ [(1, rV 0 0), (2, rV 1 0)] (k7a r rn zo zo) ?_
 refine kN [.no, .no, .call [] (qJ (kL m) c) [] 0 [] none, .no, .no] _ [(1, rV 0 0), (2, rV 1 0)] (k9j m c zo zo (kZ : MsW m)) ?_
 refine kN [.no, .no, .call [] (.e (.agg [.d (dl s sn)])) [] 0 [] none, .no, .no] _ [(1, rV 0 0), (2, rV 1 0)] (k7a s sn zo zo) ?_
 refine kI [.no, .no] True [(2, rV 1 0)] [(1, some (59, .ds [iD k, dl r rn, D.sl (kL m) c, dl s sn]))] 2 trivial ?_
 refine AW.ret ?_
 exact kC (.inr rfl) [] (P := (kM k) ∧ (kJ (dI .i64 r)) ∧ (kG rn) ∧ (kJ (kL m)) ∧ (kG c) ∧ (kJ (dI .i64 s)) ∧ (kG sn)) zk ⟨rfl, rfl, rfl, rfl, rfl, rfl, rfl⟩
theorem xM {p : Prop} (h : p := by (simp only [qH, qE, ka9, kb0, kb3] <;> omega)) : p := h
abbrev k7l (xs : List Bx) (i : Nat) : BC := .ds [iD (k9 xs i), D.sl (dI .i64 (qF xs i)) (qB xs i), D.sl (kL (kY xs i)) (ka0 (kY xs i)), D.sl (dI .i64 (qG xs i)) (qC xs i)]
theorem k1k (xs : List Bx) (n : Nat) (hn : ka0 xs = n) (h1 : n ≤ 1000000) (hW : BsW xs) : Fun 14 [.c (.d (D.sl (kP xs) n))] (kE []) 0 (.tup [.c (.d (D.sl (kP (yA xs)) (ka0 (yA xs)))), iE (aA xs)]) (kE []) 0 := by
 refine Fun.mk (n := 28) Tryz.func14 rfl rfl (ka4 rfl) ?_
 intro cx hcx
 refine kI [.no, .no] True [(0, .e (kQ xs n))] [] 0 trivial ?_
 refine AW.seq ?_
 rcases ka6 (aJ xs) with hx1 | hx1
 ·refine kN [.no, .call [] (bV true) [] 0 [] none, .no] (Fun 18 [.c (.d (D.sl (kP xs) n))] (kE []) 0 (bV true) (kE []) 0) [(0, .e (kQ xs n)), (9, bV false)] (by have h0 := (v9 xs n zo zo (kZ : BsW xs)); rw [hx1] at h0; exact h0) ?_
  refine q8 ?_
  refine kN [.no] True [(0, .e (kQ xs n)), (4, nV)] trivial ?_
  refine AW.seq ?_
  refine kN [.no, .no, .no] True [(0, .e (kQ xs n)), (4, nV), (10, .e (kQ xs n)), (11, uV n), (12, iV 0)] trivial ?_
  refine AW.block ?_
  refine AW.adoptS 4 4 59 rfl ?_
  refine kU 0 hcx (fun (x : {x : Nat × Nat × List Bx // match x with | (i, q, o) => (i ≤ n ∧ q ≤ i) ∧ (s5 xs i = o) ∧ (ka0 o = q)}) => match x with | ⟨(i, q, o), _⟩ => (⟨[(0, .e (kQ xs n)), (4, oV 1 0 q 4), (10, .e (kQ xs n)), (11, uV n), (12, uV i)], [(1, some (59, .ds (kP o)))], 2⟩ : ES)) (fun x => match x with | ⟨(i, q, o), _⟩ => n - i) ⟨((0 : Nat), (0 : Nat), (([] : List Bx) : List Bx)), ⟨zo, rfl, rfl⟩⟩ [(1, 0)] (P := (kJ (kP xs)) ∧ (kG n) ∧ (kG 0) ∧ (kG 0) ∧ (kJ (kP xs)) ∧ (kG n) ∧ (kM (n : Int)) ∧ (kM 0) ∧ (((kP ([] : List Bx)) : List D) = ([] : List D))) zk ⟨rfl, rfl, rfl, rfl, rfl, rfl, rfl, rfl, (by rfl)⟩ ?_
  rintro ⟨⟨i, q, o⟩, hinv0⟩
  obtain ⟨hi, ho, hq⟩ : (i ≤ n ∧ q ≤ i) ∧ (s5 xs i = o) ∧ (ka0 o = q) := hinv0
  refine qN (l := [(0, .e (kQ xs n)), (4, oV 1 0 q 4), (10, .e (kQ xs n)), (11, uV n), (12, uV i)]) (g := [(1, some (59, .ds (kP o)))]) (nx := 2) rfl rfl rfl ?_
  by_cases hx2 : (((i : Nat) : Int) < ((n : Nat) : Int))
  ·refine kI [.b true] (((i : Int) < (n : Int))) [(0, .e (kQ xs n)), (4, oV 1 0 q 4), (10, .e (kQ xs n)), (11, uV n), (12, uV i), (13, bV true)] [(1, some (59, .ds (kP o)))] 2 zo ?_
   refine AW.seq ?_
   refine yW ?_
   refine AW.seq ?_
   refine AW.block ?_
   obtain ⟨hx3, hx4, hx5, hx6, hx7⟩ := BsW.at (kZ : BsW xs) (i)
   refine kI [.no, .n i, .ds (uY xs i), .no, .no, .no] ((kM (i : Int)) ∧ (i < n) ∧ (ka5 4 (ka3 (i * 4) (kP xs)) = (uY xs i)) ∧ (((uY xs i) : List D).length = 4)) [(0, .e (kQ xs n)), (4, oV 1 0 q 4), (5, uV i), (6, rV 2 0), (10, .e (kQ xs n)), (11, uV n), (12, uV i)] [(1, some (59, .ds (kP o))), (2, some (59, (k7l xs i)))] 3 ⟨rfl, zo, (yF zo), rfl⟩ ?_
   rcases ka6 (goB xs i) with hx8 | hx8
   ·refine kN [.no, .no, .call [] (bV true) [] 0 [] none, .no] (Fun 39 [.c (.d (D.sl (kP xs) n)), uE i] (kE []) 0 (bV true) (kE []) 0) [(0, .e (kQ xs n)), (4, oV 1 0 q 4), (6, rV 2 0), (10, .e (kQ xs n)), (11, uV n), (12, uV i), (20, bV false)] (by have h0 := (k79 xs n i zo zo (kZ : BsW xs) zo); rw [hx8] at h0; exact h0) ?_
    refine q8 ?_
    refine aD [.w, .no] (uZ ((i : Int) + 1)) [(0, .e (kQ xs n)), (4, oV 1 0 q 4), (10, .e (kQ xs n)), (11, uV n), (12, iV (↑i + 1))] [(1, some (59, .ds (kP o)))] 3 ⟨by omega, by omega⟩ ?_
    exact kX ⟨(((i + 1) : Nat), (q : Nat), (o : List Bx)), ⟨zo, (by exact u41 ho (by assumption)), zo⟩⟩ [] (P := (kJ (kP xs)) ∧ (kG n) ∧ (kG 0) ∧ (kG q) ∧ (kJ (kP xs)) ∧ (kG n) ∧ (kM (n : Int)) ∧ (vX i) ∧ (kJ (kP o))) zk ⟨rfl, rfl, rfl, rfl, rfl, rfl, rfl, (by rfl), rfl⟩ (show n - (i + 1) < n - i from zo)
   ·refine kN [.no, .no, .call [] (bV false) [] 0 [] none, .no] (Fun 39 [.c (.d (D.sl (kP xs) n)), uE i] (kE []) 0 (bV false) (kE []) 0) [(0, .e (kQ xs n)), (4, oV 1 0 q 4), (6, rV 2 0), (10, .e (kQ xs n)), (11, uV n), (12, uV i), (20, bV true)] (by have h0 := (k79 xs n i zo zo (kZ : BsW xs) zo); rw [hx8] at h0; exact h0) ?_
    refine zt ?_
    refine aD [.no, .no, .call [] (.e ((b8 xs i))) [] 0 [] none, .no, .ap none (q + 1) (kP (o ++ ([(uO (k9 xs i) (qF xs i) (qB xs i) (kY xs i) (qG xs i) (qC xs i))] : List Bx))), .no] ((_) ∧ ((uY xs i).length = 1 * 4) ∧ (((kP o) : List D).length = q * 4) ∧ ((q + 1) * 80 ≤ 140737488355328) ∧ (q + 1 = (q + 1)) ∧ (((kP o) : List D) ++ (uY xs i) = (kP (o ++ ([(uO (k9 xs i) (qF xs i) (qB xs i) (kY xs i) (qG xs i) (qC xs i))] : List Bx))))) [(0, .e (kQ xs n)), (4, oV 4 0 (q + 1) 4), (10, .e (kQ xs n)), (11, uV n), (12, uV i)] [(4, some (59, .ds (kP (o ++ ([(uO (k9 xs i) (qF xs i) (qB xs i) (kY xs i) (qG xs i) (qC xs i))] : List Bx)))))] 5 ⟨(u3b (k9 xs i) (qF xs i) (qB xs i) (kY xs i) (ka0 (kY xs i)) (qG xs i) (qC xs i) zo zo rfl zo zo zo (BsW.ms (kZ : BsW xs) _)), aR, aR, zo, zo, (fZ o (k9 xs i) (qF xs i) (qB xs i) (kY xs i) (ka0 (kY xs i)) (qG xs i) (qC xs i) (by rfl))⟩ ?_
    refine uJ [.w, .no] (uZ ((i : Int) + 1)) [(0, .e (kQ xs n)), (4, oV 4 0 (q + 1) 4), (10, .e (kQ xs n)), (11, uV n), (12, iV (↑i + 1))] ⟨by omega, by omega⟩ ?_
    exact kX ⟨(((i + 1) : Nat), ((q + 1) : Nat), ((o ++ ([(uO (k9 xs i) (qF xs i) (qB xs i) (kY xs i) (qG xs i) (qC xs i))] : List Bx)) : List Bx)), ⟨zo, (by exact u42 ho (by assumption)), xM⟩⟩ [(1, 4)] (P := (kJ (kP xs)) ∧ (kG n) ∧ (kG 0) ∧ (kG (q + 1)) ∧ (kJ (kP xs)) ∧ (kG n) ∧ (kM (n : Int)) ∧ (vX i) ∧ (kJ (kP (o ++ ([(uO (k9 xs i) (qF xs i) (qB xs i) (kY xs i) (qG xs i) (qC xs i))] : List Bx))))) zk ⟨rfl, rfl, rfl, rfl, rfl, rfl, rfl, (by rfl), rfl⟩ (show n - (i + 1) < n - i from zo)
  ·refine kI [.b false] (¬ ((i : Int) < (n : Int))) [(0, .e (kQ xs n)), (4, oV 1 0 q 4), (10, .e (kQ xs n)), (11, uV n), (12, uV i), (13, bV false)] [(1, some (59, .ds (kP o)))] 2 zo ?_
   refine AW.seq ?_
   refine zf ?_
   refine AW.exit ?_
   refine kI [.no, .no, .no] True [(2, oV 1 0 q 4), (3, iV 0)] [(1, some (59, .ds (kP o)))] 2 trivial ?_
   refine AW.freeze 1 (l' := [(2, .e (kQ o q)), (3, iV 0)]) (g' := []) rfl (FzS.cons rfl (.e (.c (@FzC.own 1 ((kP o) : List D) 0 q 4 true ((kP o) : List D) pH aR))) (FzS.cons rfl (.same _) FzS.nil)) FzG.nil ?_
   obtain ⟨hz1, hz2⟩ := u00 hx1
   have hz3 : s5 xs (ka0 xs) = o := by have h9 := ho; rw [show i = ka0 xs by omega] at h9; exact h9
   refine AW.ret ?_
   exact kC (.inr rfl) [] (P := (((kP (yA xs)) : List D) = (kP o)) ∧ (((ka0 (yA xs)) : Nat) = q) ∧ (((aA xs) : Int) = 0)) zk ⟨(by (rw [hz1, hz3]; done)), (by (rw [hz1, hz3]; omega)), (by (rw [hz2]; done))⟩
 ·refine kN [.no, .call [] (bV false) [] 0 [] none, .no] (Fun 18 [.c (.d (D.sl (kP xs) n))] (kE []) 0 (bV false) (kE []) 0) [(0, .e (kQ xs n)), (9, bV true)] (by have h0 := (v9 xs n zo zo (kZ : BsW xs)); rw [hx1] at h0; exact h0) ?_
  refine zt ?_
  refine kN [.no, .no] True [(2, nV), (3, iV 1)] trivial ?_
  obtain ⟨hz1, hz2⟩ := u01 hx1
  refine yV (l' := [(2, qJ ([] : List D) 0), (3, iV 1)]) (g' := []) (NlS.cons rfl (.e (.c .nil)) (NlS.cons rfl (.same _) NlS.nil)) NlG.nil ?_
  refine AW.ret ?_
  exact kC (.inr rfl) [] (P := (((kP (yA xs)) : List D) = ([] : List D)) ∧ (((ka0 (yA xs)) : Nat) = 0) ∧ (((aA xs) : Int) = 1)) zk ⟨(by (rw [hz1]; rfl)), (by (rw [hz1]; rfl)), (by (rw [hz2]; done))⟩
theorem k9k (l : List Int) (n : Nat) (v : Int) (hl : ka0 l = n * 2) (hb : n ≤ 1000000) (hv : -1 ≤ v ∧ v ≤ 2147483647) : Fun 129 [.agg [.d (D.sl (dI .i64 l) n)], iE v] (kE []) 0 (.e (.agg [.d (D.sl (dI .i64 (dM l v n)) (lC l v n))])) (kE []) 0 := by
 refine Fun.mk (n := 33) Tryz.func129 rfl rfl (ka4 rfl) ?_
 intro cx hcx
 refine kI [.no, .no] True [(1, iV v), (2, rV 0 0), (4, rV 1 0)] [(0, some (56, .ds [dl l n])), (1, some (56, .ds [qR]))] 2 trivial ?_
 refine kN [.no] True [(1, iV v), (2, rV 0 0), (4, rV 1 0), (5, nV)] trivial ?_
 refine AW.seq ?_
 refine kI (kT 4 []) True [(1, iV v), (4, rV 1 0), (5, nV), (9, sV .i64 l n), (10, uV n), (11, iV 0)] [(1, some (56, .ds [qR]))] 2 trivial ?_
 refine AW.block ?_
 refine AW.adoptS 5 2 77 rfl ?_
 refine kU 0 hcx (fun (x : {x : Nat × Nat × List Int // match x with | (k, q, o) => (k ≤ n ∧ q ≤ k) ∧ (dM l v k = o) ∧ (ka0 o = q * 2)}) => match x with | ⟨(k, q, o), _⟩ => (⟨[(1, iV v), (4, rV 1 0), (5, oV 3 0 q 2), (9, sV .i64 l n), (10, uV n), (11, uV k)], [(1, some (56, .ds [qR])), (3, some (77, .ds (dI .i64 o)))], 4⟩ : ES)) (fun x => match x with | ⟨(k, q, o), _⟩ => n - k) ⟨((0 : Nat), (0 : Nat), (([] : List Int) : List Int)), ⟨zo, rfl, rfl⟩⟩ [(3, 2)] (P := (kM v) ∧ (kG 0) ∧ (kG 0) ∧ (kG 0) ∧ (kJ (dI .i64 l)) ∧ (kG n) ∧ (kM (n : Int)) ∧ (kM 0) ∧ (kJ [qR]) ∧ (((dI .i64 ([] : List Int)) : List D) = ([] : List D))) zk ⟨rfl, rfl, rfl, rfl, rfl, rfl, rfl, rfl, rfl, (by rfl)⟩ ?_
 rintro ⟨⟨k, q, o⟩, hinv0⟩
 obtain ⟨hk, ho, hq⟩ : (k ≤ n ∧ q ≤ k) ∧ (dM l v k = o) ∧ (ka0 o = q * 2) := hinv0
 refine qN (l := [(1, iV v), (4, rV 1 0), (5, oV 3 0 q 2), (9, sV .i64 l n), (10, uV n), (11, uV k)]) (g := [(1, some (56, .ds [qR])), (3, some (77, .ds (dI .i64 o)))]) (nx := 4) rfl rfl rfl ?_
 by_cases hx1 : (((k : Nat) : Int) < ((n : Nat) : Int))
 ·refine kI [.b true] (((k : Int) < (n : Int))) [(1, iV v), (4, rV 1 0), (5, oV 3 0 q 2), (9, sV .i64 l n), (10, uV n), (11, uV k), (12, bV true)] [(1, some (56, .ds [qR])), (3, some (77, .ds (dI .i64 o)))] 4 zo ?_
  refine AW.seq ?_
  refine yW ?_
  refine AW.seq ?_
  refine AW.block ?_
  refine kI [.n k, .ds [iD (ka1 l (k * 2) 0), iD (ka1 l ((k * 2) + 1) 0)], .no, .no] ((kM (k : Int)) ∧ (k < n) ∧ (ka5 2 (ka3 (k * 2) (dI .i64 l)) = [iD (ka1 l (k * 2) 0), iD (ka1 l ((k * 2) + 1) 0)]) ∧ (([iD (ka1 l (k * 2) 0), iD (ka1 l ((k * 2) + 1) 0)] : List D).length = 2)) [(1, iV v), (4, rV 1 0), (5, oV 3 0 q 2), (7, rV 4 0), (9, sV .i64 l n), (10, uV n), (11, uV k)] [(1, some (56, .ds [qR])), (3, some (77, .ds (dI .i64 o))), (4, some (77, .ds [iD (ka1 l (k * 2) 0), iD (ka1 l ((k * 2) + 1) 0)]))] 5 ⟨rfl, zo, (yN .i64 l (k * 2) 2 zo), rfl⟩ ?_
  by_cases hx2 : (v < (ka1 l ((k * 2) + 1) 0))
  ·refine kN [.no, .no, .no, .b true] ((v < (ka1 l ((k * 2) + 1) 0))) [(1, iV v), (4, rV 1 0), (5, oV 3 0 q 2), (7, rV 4 0), (9, sV .i64 l n), (10, uV n), (11, uV k), (18, bV true)] zo ?_
   refine zt ?_
   refine aD (kT 4 (.w :: kT 5 [.ap none (q + 1) (dI .i64 (o ++ ([(max (ka1 l (k * 2) 0) (v + 1)), (ka1 l ((k * 2) + 1) 0)] : List Int))), .no])) ((uZ (v + 1)) ∧ ([iD (max (ka1 l (k * 2) 0) (v + 1)), iD (ka1 l ((k * 2) + 1) 0)].length = 1 * 2) ∧ (((dI .i64 o) : List D).length = q * 2) ∧ ((q + 1) * 16 ≤ 140737488355328) ∧ (q + 1 = (q + 1)) ∧ (((dI .i64 o) : List D) ++ [iD (max (ka1 l (k * 2) 0) (v + 1)), iD (ka1 l ((k * 2) + 1) 0)] = (dI .i64 (o ++ ([(max (ka1 l (k * 2) 0) (v + 1)), (ka1 l ((k * 2) + 1) 0)] : List Int))))) [(1, iV v), (4, rV 1 0), (5, oV 6 0 (q + 1) 2), (9, sV .i64 l n), (10, uV n), (11, uV k)] [(1, some (56, .ds [qR])), (6, some (77, .ds (dI .i64 (o ++ ([(max (ka1 l (k * 2) 0) (v + 1)), (ka1 l ((k * 2) + 1) 0)] : List Int)))))] 7 ⟨⟨by omega, by omega⟩, aR, aR, zo, zo, (aN .i64 o ([(max (ka1 l (k * 2) 0) (v + 1)), (ka1 l ((k * 2) + 1) 0)] : List Int))⟩ ?_
   refine uJ [.w, .no] (uZ ((k : Int) + 1)) [(1, iV v), (4, rV 1 0), (5, oV 6 0 (q + 1) 2), (9, sV .i64 l n), (10, uV n), (11, iV (↑k + 1))] ⟨by omega, by omega⟩ ?_
   exact kX ⟨(((k + 1) : Nat), ((q + 1) : Nat), ((o ++ ([(max (ka1 l (k * 2) 0) (v + 1)), (ka1 l ((k * 2) + 1) 0)] : List Int)) : List Int)), ⟨zo, (by exact u98 ho zo (by rfl) rfl), xM⟩⟩ [(3, 6)] (P := (kM v) ∧ (kG 0) ∧ (kG 0) ∧ (kG (q + 1)) ∧ (kJ (dI .i64 l)) ∧ (kG n) ∧ (kM (n : Int)) ∧ (vX k) ∧ (kJ [qR]) ∧ (kJ (dI .i64 (o ++ ([(max (ka1 l (k * 2) 0) (v + 1)), (ka1 l ((k * 2) + 1) 0)] : List Int))))) zk ⟨rfl, rfl, rfl, rfl, rfl, rfl, rfl, (by rfl), rfl, rfl⟩ (show n - (k + 1) < n - k from zo)
  ·refine kN [.no, .no, .no, .b false] (¬ (v < (ka1 l ((k * 2) + 1) 0))) [(1, iV v), (4, rV 1 0), (5, oV 3 0 q 2), (7, rV 4 0), (9, sV .i64 l n), (10, uV n), (11, uV k), (18, bV false)] zo ?_
   refine q8 ?_
   refine aD [.w, .no] (uZ ((k : Int) + 1)) [(1, iV v), (4, rV 1 0), (5, oV 3 0 q 2), (9, sV .i64 l n), (10, uV n), (11, iV (↑k + 1))] [(1, some (56, .ds [qR])), (3, some (77, .ds (dI .i64 o)))] 5 ⟨by omega, by omega⟩ ?_
   exact kX ⟨(((k + 1) : Nat), (q : Nat), (o : List Int)), ⟨zo, (by exact u99 ho zo), (by assumption)⟩⟩ [] (P := (kM v) ∧ (kG 0) ∧ (kG 0) ∧ (kG q) ∧ (kJ (dI .i64 l)) ∧ (kG n) ∧ (kM (n : Int)) ∧ (vX k) ∧ (kJ [qR]) ∧ (kJ (dI .i64 o))) zk ⟨rfl, rfl, rfl, rfl, rfl, rfl, rfl, (by rfl), rfl, rfl⟩ (show n - (k + 1) < n - k from zo)
 ·refine kI [.b false] (¬ ((k : Int) < (n : Int))) [(1, iV v), (4, rV 1 0), (5, oV 3 0 q 2), (9, sV .i64 l n), (10, uV n), (11, uV k), (12, bV false)] [(1, some (56, .ds [qR])), (3, some (77, .ds (dI .i64 o)))] 4 zo ?_
  refine AW.seq ?_
  refine zf ?_
  refine AW.exit ?_
  refine kI [.no, .no, .no] True [(4, rV 1 0)] [(1, some (56, .cs [.own 3 0 q 2 true])), (3, some (77, .ds (dI .i64 o)))] 4 trivial ?_
  refine AW.freeze 3 (l' := [(4, rV 1 0)]) (g' := [(1, some (56, .ds [dl o q]))]) rfl (FzS.cons rfl (.same _) FzS.nil) (FzG.to (bc := .cs [.own 3 0 q 2 true]) rfl (by rfl) (FzL.cons (@FzC.own 3 ((dI .i64 o) : List D) 0 q 2 true ((dI .i64 o) : List D) pH aR) FzL.nil) FzG.nil) ?_
  have hz1 : dM l v n = o := by have h9 := ho; rw [show k = n by omega] at h9; exact h9
  have hz2 : lC l v n = q := by unfold lC; rw [hz1]; omega
  refine AW.ret ?_
  exact kC (.inr rfl) [] (P := (((dI .i64 (dM l v n)) : List D) = (dI .i64 o)) ∧ (((lC l v n) : Nat) = q)) zk ⟨(by (rw [hz1]; done)), (by exact hz2)⟩
theorem j0 (a b : List Int) (n m : Nat) (ha : ka0 a = n * 2) (hb : ka0 b = m * 2) (h3 : n ≤ 1000000) (h4 : m ≤ 1000000) : Fun 85 [.agg [.d (D.sl (dI .i64 a) n)], .agg [.d (D.sl (dI .i64 b) m)]] (kE []) 0 (.tup [.agg [.d (D.sl (dI .i64 (uM (kB a n) (kB b m))) (qP (kB a n) (kB b m)))], .c (.d (D.lit (.bool (mU a n b m))))]) (kE []) 0 := by
 refine Fun.mk (n := 30) Tryz.func85 rfl rfl (ka4 rfl) ?_
 intro cx hcx
 refine kI (kT 4 []) True [(2, rV 0 0), (3, rV 1 0), (4, rV 2 0)] [(0, some (56, .ds [dl a n])), (1, some (56, .ds [dl b m])), (2, some (56, .ds [qR]))] 3 trivial ?_
 have hx1 : ((ka0 (uM (kB a n) (kB b m))) = ((qP (kB a n) (kB b m)) * 2)) := yM _ _
 have hx2 : ((qP (kB a n) (kB b m)) ≤ 64) := a9 _ _
 refine kI [.no, .no, .call [] (.e (.agg [.d (dl (uM (kB a n) (kB b m)) (qP (kB a n) (kB b m)))])) [] 0 [] none, .no, .no] _ [(2, rV 0 0), (3, rV 1 0), (4, rV 2 0), (6, rV 3 0)] [(0, some (56, .ds [dl a n])), (1, some (56, .ds [dl b m])), (2, some (56, .ds [qR])), (3, some (56, .ds [dl (uM (kB a n) (kB b m)) (qP (kB a n) (kB b m))]))] 4 (f7 a b n m zo zo zo zo) ?_
 refine AW.seq ?_
 by_cases hx3 : ((((qP (kB a n) (kB b m)) : Nat) : Int) < 64)
 ·refine kN [.no, .no, .no, .b true] (((qP (kB a n) (kB b m) : Int) < 64)) [(2, rV 0 0), (3, rV 1 0), (4, rV 2 0), (6, rV 3 0), (14, bV true)] zo ?_
  refine zt ?_
  refine kI [.no, .no, .no] True [(4, rV 2 0), (5, bV true)] [(2, some (56, .ds [dl (uM (kB a n) (kB b m)) (qP (kB a n) (kB b m))]))] 4 trivial ?_
  refine AW.ret ?_
  exact kC (.inr rfl) [] (P := (kJ (dI .i64 (uM (kB a n) (kB b m)))) ∧ (kG (qP (kB a n) (kB b m))) ∧ ((mU a n b m) = true)) zk ⟨rfl, rfl, (by exact u53 zo)⟩
 ·refine kN [.no, .no, .no, .b false] (¬ ((qP (kB a n) (kB b m) : Int) < 64)) [(2, rV 0 0), (3, rV 1 0), (4, rV 2 0), (6, rV 3 0), (14, bV false)] zo ?_
  refine q8 ?_
  have hx4 : 0 ≤ ka1 (uM (kB a n) (kB b m)) 127 0 ∧ ka1 (uM (kB a n) (kB b m)) 127 0 ≤ 2147483647 := u5g ha hb zo
  have hx5 : ((ka0 (dM a (ka1 (uM (kB a n) (kB b m)) 127 0) n)) = ((lC a (ka1 (uM (kB a n) (kB b m)) 127 0) n) * 2)) := (sH a (ka1 (uM (kB a n) (kB b m)) 127 0) n).1
  have hx6 : ((lC a (ka1 (uM (kB a n) (kB b m)) 127 0) n) ≤ n) := (sH a (ka1 (uM (kB a n) (kB b m)) 127 0) n).2
  have hx7 : ((ka0 (uM (kB (dM a (ka1 (uM (kB a n) (kB b m)) 127 0) n) (lC a (ka1 (uM (kB a n) (kB b m)) 127 0) n)) (kB b m))) = ((qP (kB (dM a (ka1 (uM (kB a n) (kB b m)) 127 0) n) (lC a (ka1 (uM (kB a n) (kB b m)) 127 0) n)) (kB b m)) * 2)) := yM _ _
  have hx8 : ((qP (kB (dM a (ka1 (uM (kB a n) (kB b m)) 127 0) n) (lC a (ka1 (uM (kB a n) (kB b m)) 127 0) n)) (kB b m)) ≤ 64) := a9 _ _
  refine kI [.no, .no, .no, .n 63, .no, .d (D.lit (.int .i64 (ka1 (uM (kB a n) (kB b m)) 127 0))), .call [] (.e (.agg [.d (dl (dM a (ka1 (uM (kB a n) (kB b m)) 127 0) n) (lC a (ka1 (uM (kB a n) (kB b m)) 127 0) n))])) [] 0 [] none, .no, .call [] (.e (.agg [.d (dl (uM (kB (dM a (ka1 (uM (kB a n) (kB b m)) 127 0) n) (lC a (ka1 (uM (kB a n) (kB b m)) 127 0) n)) (kB b m)) (qP (kB (dM a (ka1 (uM (kB a n) (kB b m)) 127 0) n) (lC a (ka1 (uM (kB a n) (kB b m)) 127 0) n)) (kB b m)))])) [] 0 [] none, .no, .no] ((kM 63) ∧ ((63 : Nat) < (qP (kB a n) (kB b m))) ∧ ((ka3 1 (ka3 126 (dI .i64 (uM (kB a n) (kB b m)))))[0]? = some (D.lit (.int .i64 (ka1 (uM (kB a n) (kB b m)) 127 0)))) ∧ (_) ∧ (_)) [(4, rV 2 0), (6, rV 3 0), (7, rV 4 0)] [(2, some (56, .ds [qR])), (3, some (56, .ds [dl (uM (kB a n) (kB b m)) (qP (kB a n) (kB b m))])), (4, some (56, .ds [dl (uM (kB (dM a (ka1 (uM (kB a n) (kB b m)) 127 0) n) (lC a (ka1 (uM (kB a n) (kB b m)) 127 0) n)) (kB b m)) (qP (kB (dM a (ka1 (uM (kB a n) (kB b m)) 127 0) n) (lC a (ka1 (uM (kB a n) (kB b m)) 127 0) n)) (kB b m))]))] 5 ⟨rfl, zo, (by (rw [List.drop_drop]; exact uI _ _ _ zo)), (k9k a n (ka1 (uM (kB a n) (kB b m)) 127 0) zo zo zo), (f7 (dM a (ka1 (uM (kB a n) (kB b m)) 127 0) n) b (lC a (ka1 (uM (kB a n) (kB b m)) 127 0) n) m zo zo zo zo)⟩ ?_
  by_cases hx9 : ((((qP (kB (dM a (ka1 (uM (kB a n) (kB b m)) 127 0) n) (lC a (ka1 (uM (kB a n) (kB b m)) 127 0) n)) (kB b m)) : Nat) : Int) = 0)
  ·refine kI (kT 4 [.b true, .no, .no]) (((((qP (kB (dM a (ka1 (uM (kB a n) (kB b m)) 127 0) n) (lC a (ka1 (uM (kB a n) (kB b m)) 127 0) n)) (kB b m)) : Nat) : Int) = 0)) [(4, rV 2 0), (5, bV true)] [(2, some (56, .ds [dl (uM (kB a n) (kB b m)) (qP (kB a n) (kB b m))]))] 5 zo ?_
   refine AW.ret ?_
   exact kC (.inr rfl) [] (P := (kJ (dI .i64 (uM (kB a n) (kB b m)))) ∧ (kG (qP (kB a n) (kB b m))) ∧ ((mU a n b m) = true)) zk ⟨rfl, rfl, (by exact u8g zo)⟩
  ·refine kI (kT 4 [.b false, .no, .no]) (¬ ((((qP (kB (dM a (ka1 (uM (kB a n) (kB b m)) 127 0) n) (lC a (ka1 (uM (kB a n) (kB b m)) 127 0) n)) (kB b m)) : Nat) : Int) = 0)) [(4, rV 2 0), (5, bV false)] [(2, some (56, .ds [dl (uM (kB a n) (kB b m)) (qP (kB a n) (kB b m))]))] 5 zo ?_
   refine AW.ret ?_
   exact kC (.inr rfl) [] (P := (kJ (dI .i64 (uM (kB a n) (kB b m)))) ∧ (kG (qP (kB a n) (kB b m))) ∧ ((mU a n b m) = false)) zk ⟨rfl, rfl, (by exact u8h zo zo)⟩
abbrev dY : BC := .ds [iD 0, D.lit (.slice none 0 0), D.lit (.slice none 0 0), D.lit (.slice none 0 0)]
abbrev lP (k : Int) (k2 : Int) (r : List Int) (rn : Nat) (r2 : List Int) (rn2 : Nat) (m : List (List Int)) (m2 : List (List Int)) (c : Nat) (s : List Int) (sn : Nat) (s2 : List Int) (sn2 : Nat) : BC := .ds [iD (uR k k2), D.sl (dI .i64 (uM (kB r rn) (kB r2 rn2))) (qP (kB r rn) (kB r2 rn2)), D.sl (kL (uP m m2 c)) (ka0 (uP m m2 c)), D.sl (dI .i64 (uM (kB s sn) (kB s2 sn2))) (qP (kB s sn) (kB s2 sn2))]
abbrev fK (r : List Int) (rn : Nat) (r2 : List Int) (rn2 : Nat) : BC := .ds [D.sl (dI .i64 (uM (kB r rn) (kB r2 rn2))) (qP (kB r rn) (kB r2 rn2))]
theorem k1l (k : Int) (r : List Int) (rn : Nat) (m : List (List Int)) (c : Nat) (s : List Int) (sn : Nat) (k2 : Int) (r2 : List Int) (rn2 : Nat) (m2 : List (List Int)) (c2 : Nat) (s2 : List Int) (sn2 : Nat) (hr : ka0 r = rn * 2) (hs : ka0 s = sn * 2) (hc : ka0 m = c) (h1 : rn ≤ 1000000) (h2 : sn ≤ 1000000) (h3 : c ≤ 1000000) (hW : MsW m) (hr2 : ka0 r2 = rn2 * 2) (hs2 : ka0 s2 = sn2 * 2) (hc2 : ka0 m2 = c2) (h12 : rn2 ≤ 1000000) (h22 : sn2 ≤ 1000000) (h32 : c2 ≤ 1000000) (hW2 : MsW m2) : Fun 42 [.agg [iC k, .d (D.sl (dI .i64 r) rn), .d (D.sl (kL m) c), .d (D.sl (dI .i64 s) sn)], .agg [iC k2, .d (D.sl (dI .i64 r2) rn2), .d (D.sl (kL m2) c2), .d (D.sl (dI .i64 s2) sn2)]] (kE []) 0 (.tup [.agg [iC (uR k k2), .d (D.sl (dI .i64 (uM (kB r rn) (kB r2 rn2))) (qP (kB r rn) (kB r2 rn2))), .d (D.sl (kL (uP m m2 c)) (ka0 (uP m m2 c))), .d (D.sl (dI .i64 (uM (kB s sn) (kB s2 sn2))) (qP (kB s sn) (kB s2 sn2)))], .c (.d (D.lit (.bool (xsB r rn r2 rn2 s sn s2 sn2))))]) (kE []) 0 := by
 refine Fun.mk (n := 43) Tryz.func42 rfl rfl (ka4 rfl) ?_
 intro cx hcx
 refine kI (kT 4 []) True [(2, rV 0 0), (3, rV 1 0), (4, rV 2 0)] [(0, some (59, .ds [iD k, dl r rn, D.sl (kL m) c, dl s sn])), (1, some (59, .ds [iD k2, dl r2 rn2, D.sl (kL m2) c2, dl s2 sn2])), (2, some (59, dY))] 3 trivial ?_
 rcases ka6 (mU r rn r2 rn2) with hx1 | hx1
 ·have hx2 : ((ka0 (uM (kB r rn) (kB r2 rn2))) = ((qP (kB r rn) (kB r2 rn2)) * 2)) := yM _ _
  have hx3 : ((qP (kB r rn) (kB r2 rn2)) ≤ 64) := a9 _ _
  refine kI (kT 4 (.call [] (.tup [.agg [.d (dl (uM (kB r rn) (kB r2 rn2)) (qP (kB r rn) (kB r2 rn2)))], .c (.d (D.lit (.bool true)))]) [] 0 [] none :: kT 6 [])) (Fun 85 [.agg [.d (dl r rn)], .agg [.d (dl r2 rn2)]] (kE []) 0 (.tup [.agg [.d (dl (uM (kB r rn) (kB r2 rn2)) (qP (kB r rn) (kB r2 rn2)))], .c (.d (D.lit (.bool true)))]) (kE []) 0) [(2, rV 0 0), (3, rV 1 0), (4, rV 2 0), (6, rV 3 0), (7, bV true)] [(0, some (59, .ds [iD k, dl r rn, D.sl (kL m) c, dl s sn])), (1, some (59, .ds [iD k2, dl r2 rn2, D.sl (kL m2) c2, dl s2 sn2])), (2, some (59, dY)), (3, some (56, (fK r rn r2 rn2)))] 4 (by have h0 := (j0 r r2 rn rn2 zo zo zo zo); rw [hx1] at h0; exact h0) ?_
  rcases ka6 (mU s sn s2 sn2) with hx4 | hx4
  ·have hx5 : ((ka0 (uM (kB s sn) (kB s2 sn2))) = ((qP (kB s sn) (kB s2 sn2)) * 2)) := yM _ _
   have hx6 : ((qP (kB s sn) (kB s2 sn2)) ≤ 64) := a9 _ _
   refine kI (kT 4 (.call [] (.tup [.agg [.d (dl (uM (kB s sn) (kB s2 sn2)) (qP (kB s sn) (kB s2 sn2)))], .c (.d (D.lit (.bool true)))]) [] 0 [] none :: kT 6 [])) (Fun 85 [.agg [.d (dl s sn)], .agg [.d (dl s2 sn2)]] (kE []) 0 (.tup [.agg [.d (dl (uM (kB s sn) (kB s2 sn2)) (qP (kB s sn) (kB s2 sn2)))], .c (.d (D.lit (.bool true)))]) (kE []) 0) [(2, rV 0 0), (3, rV 1 0), (4, rV 2 0), (6, rV 3 0), (7, bV true), (8, rV 4 0), (9, bV true)] [(0, some (59, .ds [iD k, dl r rn, D.sl (kL m) c, dl s sn])), (1, some (59, .ds [iD k2, dl r2 rn2, D.sl (kL m2) c2, dl s2 sn2])), (2, some (59, dY)), (3, some (56, (fK r rn r2 rn2))), (4, some (56, .ds [dl (uM (kB s sn) (kB s2 sn2)) (qP (kB s sn) (kB s2 sn2))]))] 5 (by have h0 := (j0 s s2 sn sn2 zo zo zo zo); rw [hx4] at h0; exact h0) ?_
   have hx7 : ((ka0 (uP m m2 c)) ≤ c) := aO m m2 c
   refine kI (kT 4 (.i (uR k k2) :: kT 5 (.call [] (qJ (kL (uP m m2 c)) (ka0 (uP m m2 c))) [] 0 [] none :: kT 8 []))) ((qI .and .i64 k k2 = (uR k k2)) ∧ (_)) [(4, rV 2 0), (5, bV true)] [(2, some (59, (lP k k2 r rn r2 rn2 m m2 c s sn s2 sn2)))] 5 ⟨rfl, (k2y m m2 c c2 zo zo zo zo (kZ : MsW m) (kZ : MsW m2))⟩ ?_
   refine AW.ret ?_
   exact kC (.inr rfl) [] (P := (kM (uR k k2)) ∧ (kJ (dI .i64 (uM (kB r rn) (kB r2 rn2)))) ∧ (kG (qP (kB r rn) (kB r2 rn2))) ∧ (kJ (kL (uP m m2 c))) ∧ (kG (ka0 (uP m m2 c))) ∧ (kJ (dI .i64 (uM (kB s sn) (kB s2 sn2)))) ∧ (kG (qP (kB s sn) (kB s2 sn2))) ∧ ((xsB r rn r2 rn2 s sn s2 sn2) = true)) zk ⟨rfl, rfl, rfl, rfl, rfl, rfl, rfl, (by exact u75 (by assumption) (by assumption))⟩
  ·have hx8 : ((ka0 (uM (kB s sn) (kB s2 sn2))) = ((qP (kB s sn) (kB s2 sn2)) * 2)) := yM _ _
   have hx9 : ((qP (kB s sn) (kB s2 sn2)) ≤ 64) := a9 _ _
   refine kI (kT 4 (.call [] (.tup [.agg [.d (dl (uM (kB s sn) (kB s2 sn2)) (qP (kB s sn) (kB s2 sn2)))], .c (.d (D.lit (.bool false)))]) [] 0 [] none :: kT 6 [])) (Fun 85 [.agg [.d (dl s sn)], .agg [.d (dl s2 sn2)]] (kE []) 0 (.tup [.agg [.d (dl (uM (kB s sn) (kB s2 sn2)) (qP (kB s sn) (kB s2 sn2)))], .c (.d (D.lit (.bool false)))]) (kE []) 0) [(2, rV 0 0), (3, rV 1 0), (4, rV 2 0), (6, rV 3 0), (7, bV true), (8, rV 4 0), (9, bV false)] [(0, some (59, .ds [iD k, dl r rn, D.sl (kL m) c, dl s sn])), (1, some (59, .ds [iD k2, dl r2 rn2, D.sl (kL m2) c2, dl s2 sn2])), (2, some (59, dY)), (3, some (56, (fK r rn r2 rn2))), (4, some (56, .ds [dl (uM (kB s sn) (kB s2 sn2)) (qP (kB s sn) (kB s2 sn2))]))] 5 (by have h0 := (j0 s s2 sn sn2 zo zo zo zo); rw [hx4] at h0; exact h0) ?_
   have hx10 : ((ka0 (uP m m2 c)) ≤ c) := aO m m2 c
   refine kI (kT 4 (.i (uR k k2) :: kT 5 (.call [] (qJ (kL (uP m m2 c)) (ka0 (uP m m2 c))) [] 0 [] none :: kT 8 []))) ((qI .and .i64 k k2 = (uR k k2)) ∧ (_)) [(4, rV 2 0), (5, bV false)] [(2, some (59, (lP k k2 r rn r2 rn2 m m2 c s sn s2 sn2)))] 5 ⟨rfl, (k2y m m2 c c2 zo zo zo zo (kZ : MsW m) (kZ : MsW m2))⟩ ?_
   refine AW.ret ?_
   exact kC (.inr rfl) [] (P := (kM (uR k k2)) ∧ (kJ (dI .i64 (uM (kB r rn) (kB r2 rn2)))) ∧ (kG (qP (kB r rn) (kB r2 rn2))) ∧ (kJ (kL (uP m m2 c))) ∧ (kG (ka0 (uP m m2 c))) ∧ (kJ (dI .i64 (uM (kB s sn) (kB s2 sn2)))) ∧ (kG (qP (kB s sn) (kB s2 sn2))) ∧ ((xsB r rn r2 rn2 s sn s2 sn2) = false)) zk ⟨rfl, rfl, rfl, rfl, rfl, rfl, rfl, (by exact u76 (by assumption))⟩
 ·have hx11 : ((ka0 (uM (kB r rn) (kB r2 rn2))) = ((qP (kB r rn) (kB r2 rn2)) * 2)) := yM _ _
  have hx12 : ((qP (kB r rn) (kB r2 rn2)) ≤ 64) := a9 _ _
  refine kI (kT 4 (.call [] (.tup [.agg [.d (dl (uM (kB r rn) (kB r2 rn2)) (qP (kB r rn) (kB r2 rn2)))], .c (.d (D.lit (.bool false)))]) [] 0 [] none :: kT 6 [])) (Fun 85 [.agg [.d (dl r rn)], .agg [.d (dl r2 rn2)]] (kE []) 0 (.tup [.agg [.d (dl (uM (kB r rn) (kB r2 rn2)) (qP (kB r rn) (kB r2 rn2)))], .c (.d (D.lit (.bool false)))]) (kE []) 0) [(2, rV 0 0), (3, rV 1 0), (4, rV 2 0), (6, rV 3 0), (7, bV false)] [(0, some (59, .ds [iD k, dl r rn, D.sl (kL m) c, dl s sn])), (1, some (59, .ds [iD k2, dl r2 rn2, D.sl (kL m2) c2, dl s2 sn2])), (2, some (59, dY)), (3, some (56, (fK r rn r2 rn2)))] 4 (by have h0 := (j0 r r2 rn rn2 zo zo zo zo); rw [hx1] at h0; exact h0) ?_
  rcases ka6 (mU s sn s2 sn2) with hx13 | hx13
  ·have hx14 : ((ka0 (uM (kB s sn) (kB s2 sn2))) = ((qP (kB s sn) (kB s2 sn2)) * 2)) := yM _ _
   have hx15 : ((qP (kB s sn) (kB s2 sn2)) ≤ 64) := a9 _ _
   refine kI (kT 4 (.call [] (.tup [.agg [.d (dl (uM (kB s sn) (kB s2 sn2)) (qP (kB s sn) (kB s2 sn2)))], .c (.d (D.lit (.bool true)))]) [] 0 [] none :: kT 6 [])) (Fun 85 [.agg [.d (dl s sn)], .agg [.d (dl s2 sn2)]] (kE []) 0 (.tup [.agg [.d (dl (uM (kB s sn) (kB s2 sn2)) (qP (kB s sn) (kB s2 sn2)))], .c (.d (D.lit (.bool true)))]) (kE []) 0) [(2, rV 0 0), (3, rV 1 0), (4, rV 2 0), (6, rV 3 0), (7, bV false), (8, rV 4 0), (9, bV true)] [(0, some (59, .ds [iD k, dl r rn, D.sl (kL m) c, dl s sn])), (1, some (59, .ds [iD k2, dl r2 rn2, D.sl (kL m2) c2, dl s2 sn2])), (2, some (59, dY)), (3, some (56, (fK r rn r2 rn2))), (4, some (56, .ds [dl (uM (kB s sn) (kB s2 sn2)) (qP (kB s sn) (kB s2 sn2))]))] 5 (by have h0 := (j0 s s2 sn sn2 zo zo zo zo); rw [hx13] at h0; exact h0) ?_
   have hx16 : ((ka0 (uP m m2 c)) ≤ c) := aO m m2 c
   refine kI (kT 4 (.i (uR k k2) :: kT 5 (.call [] (qJ (kL (uP m m2 c)) (ka0 (uP m m2 c))) [] 0 [] none :: kT 7 []))) ((qI .and .i64 k k2 = (uR k k2)) ∧ (_)) [(4, rV 2 0), (5, bV false)] [(2, some (59, (lP k k2 r rn r2 rn2 m m2 c s sn s2 sn2)))] 5 ⟨rfl, (k2y m m2 c c2 zo zo zo zo (kZ : MsW m) (kZ : MsW m2))⟩ ?_
   refine AW.ret ?_
   exact kC (.inr rfl) [] (P := (kM (uR k k2)) ∧ (kJ (dI .i64 (uM (kB r rn) (kB r2 rn2)))) ∧ (kG (qP (kB r rn) (kB r2 rn2))) ∧ (kJ (kL (uP m m2 c))) ∧ (kG (ka0 (uP m m2 c))) ∧ (kJ (dI .i64 (uM (kB s sn) (kB s2 sn2)))) ∧ (kG (qP (kB s sn) (kB s2 sn2))) ∧ ((xsB r rn r2 rn2 s sn s2 sn2) = false)) zk ⟨rfl, rfl, rfl, rfl, rfl, rfl, rfl, (by exact u3h (by assumption))⟩
  ·have hx17 : ((ka0 (uM (kB s sn) (kB s2 sn2))) = ((qP (kB s sn) (kB s2 sn2)) * 2)) := yM _ _
   have hx18 : ((qP (kB s sn) (kB s2 sn2)) ≤ 64) := a9 _ _
   refine kI (kT 4 (.call [] (.tup [.agg [.d (dl (uM (kB s sn) (kB s2 sn2)) (qP (kB s sn) (kB s2 sn2)))], .c (.d (D.lit (.bool false)))]) [] 0 [] none :: kT 6 [])) (Fun 85 [.agg [.d (dl s sn)], .agg [.d (dl s2 sn2)]] (kE []) 0 (.tup [.agg [.d (dl (uM (kB s sn) (kB s2 sn2)) (qP (kB s sn) (kB s2 sn2)))], .c (.d (D.lit (.bool false)))]) (kE []) 0) [(2, rV 0 0), (3, rV 1 0), (4, rV 2 0), (6, rV 3 0), (7, bV false), (8, rV 4 0), (9, bV false)] [(0, some (59, .ds [iD k, dl r rn, D.sl (kL m) c, dl s sn])), (1, some (59, .ds [iD k2, dl r2 rn2, D.sl (kL m2) c2, dl s2 sn2])), (2, some (59, dY)), (3, some (56, (fK r rn r2 rn2))), (4, some (56, .ds [dl (uM (kB s sn) (kB s2 sn2)) (qP (kB s sn) (kB s2 sn2))]))] 5 (by have h0 := (j0 s s2 sn sn2 zo zo zo zo); rw [hx13] at h0; exact h0) ?_
   have hx19 : ((ka0 (uP m m2 c)) ≤ c) := aO m m2 c
   refine kI (kT 4 (.i (uR k k2) :: kT 5 (.call [] (qJ (kL (uP m m2 c)) (ka0 (uP m m2 c))) [] 0 [] none :: kT 7 []))) ((qI .and .i64 k k2 = (uR k k2)) ∧ (_)) [(4, rV 2 0), (5, bV false)] [(2, some (59, (lP k k2 r rn r2 rn2 m m2 c s sn s2 sn2)))] 5 ⟨rfl, (k2y m m2 c c2 zo zo zo zo (kZ : MsW m) (kZ : MsW m2))⟩ ?_
   refine AW.ret ?_
   exact kC (.inr rfl) [] (P := (kM (uR k k2)) ∧ (kJ (dI .i64 (uM (kB r rn) (kB r2 rn2)))) ∧ (kG (qP (kB r rn) (kB r2 rn2))) ∧ (kJ (kL (uP m m2 c))) ∧ (kG (ka0 (uP m m2 c))) ∧ (kJ (dI .i64 (uM (kB s sn) (kB s2 sn2)))) ∧ (kG (qP (kB s sn) (kB s2 sn2))) ∧ ((xsB r rn r2 rn2 s sn s2 sn2) = false)) zk ⟨rfl, rfl, rfl, rfl, rfl, rfl, rfl, (by exact u3h (by assumption))⟩
abbrev u6 (a : List Bx) (i : Nat) (b : List Bx) (j : Nat) := uM (kB (qF a i) (qB a i)) (kB (qF b j) (qB b j))
abbrev uU (a : List Bx) (i : Nat) (b : List Bx) (j : Nat) := qP (kB (qF a i) (qB a i)) (kB (qF b j) (qB b j))
abbrev qK (a : List Bx) (i : Nat) (b : List Bx) (j : Nat) := uP (kY a i) (kY b j) (ka0 (kY a i))
abbrev u5 (a : List Bx) (i : Nat) (b : List Bx) (j : Nat) := uM (kB (qG a i) (qC a i)) (kB (qG b j) (qC b j))
abbrev uT (a : List Bx) (i : Nat) (b : List Bx) (j : Nat) := qP (kB (qG a i) (qC a i)) (kB (qG b j) (qC b j))
abbrev hU (a : List Bx) (i : Nat) (b : List Bx) (j : Nat) := uO (uR (k9 a i) (k9 b j)) (u6 a i b j) (uU a i b j) (qK a i b j) (u5 a i b j) (uT a i b j)
abbrev aU (a : List Bx) (i : Nat) : BC := .ds [iD (k9 a i), D.sl (dI .i64 (qF a i)) (qB a i), D.sl (kL (kY a i)) (ka0 (kY a i)), D.sl (dI .i64 (qG a i)) (qC a i)]
abbrev k03 (a : List Bx) (i : Nat) (b : List Bx) (j : Nat) : BC := .ds [iD (uR (k9 a i) (k9 b j)), D.sl (dI .i64 (u6 a i b j)) (uU a i b j), D.sl (kL (qK a i b j)) (ka0 (qK a i b j)), D.sl (dI .i64 (u5 a i b j)) (uT a i b j)]
theorem k78 (a b : List Bx) (n m : Nat) (hn : ka0 a = n) (hm : ka0 b = m) (h1 : n ≤ 1000) (h2 : m ≤ 1000) (hW : BsW a) (hV : BsW b) : Fun 16 [.c (.d (D.sl (kP a) n)), .c (.d (D.sl (kP b) m))] (kE []) 0 (.tup [.c (.d (D.sl (kP (yB a b)) (ka0 (yB a b)))), iE (aM a b)]) (kE []) 0 := by
 refine Fun.mk (n := 59) Tryz.func16 rfl rfl (ka4 rfl) ?_
 intro cx hcx
 refine kI [.no, .no] True [(0, .e (kQ a n)), (1, .e (kQ b m))] [] 0 trivial ?_
 refine AW.seq ?_
 rcases ka6 (aJ a) with hx1 | hx1
 ·rcases ka6 (aJ b) with hx2 | hx2
  ·refine kN [.no, .call [] (bV true) [] 0 [] none, .no, .no, .no, .call [] (bV true) [] 0 [] none, .no, .no] ((Fun 18 [.c (.d (D.sl (kP a) n))] (kE []) 0 (bV true) (kE []) 0) ∧ (Fun 18 [.c (.d (D.sl (kP b) m))] (kE []) 0 (bV true) (kE []) 0)) [(0, .e (kQ a n)), (1, .e (kQ b m)), (20, bV false)] ⟨(by have h0 := (v9 a n zo zo (kZ : BsW a)); rw [hx1] at h0; exact h0), (by have h0 := (v9 b m zo zo (kZ : BsW b)); rw [hx2] at h0; exact h0)⟩ ?_
   refine q8 ?_
   refine kN [.no] True [(0, .e (kQ a n)), (1, .e (kQ b m)), (6, nV)] trivial ?_
   refine AW.seq ?_
   refine kN [.no, .no, .no] True [(1, .e (kQ b m)), (6, nV), (21, .e (kQ a n)), (22, uV n), (23, iV 0)] trivial ?_
   refine AW.block ?_
   refine AW.adoptS 6 4 59 rfl ?_
   refine kU 0 hcx (fun (x : {x : Nat × Nat × List Bx // match x with | (i, q, o) => (i ≤ n) ∧ (CI a b i o) ∧ (ka0 o = q ∧ q ≤ 64) ∧ (BsW o)}) => match x with | ⟨(i, q, o), _⟩ => (⟨[(1, .e (kQ b m)), (6, oV 1 0 q 4), (21, .e (kQ a n)), (22, uV n), (23, uV i)], [(1, some (59, .ds (kP o)))], 2⟩ : ES)) (fun x => match x with | ⟨(i, q, o), _⟩ => n - i) ⟨((0 : Nat), (0 : Nat), (([] : List Bx) : List Bx)), ⟨zo, CI.zero a b, ⟨rfl, by omega⟩, BsW.nil⟩⟩ [(1, 0)] (P := (kJ (kP b)) ∧ (kG m) ∧ (kG 0) ∧ (kG 0) ∧ (kJ (kP a)) ∧ (kG n) ∧ (kM (n : Int)) ∧ (kM 0) ∧ (((kP ([] : List Bx)) : List D) = ([] : List D))) zk ⟨rfl, rfl, rfl, rfl, rfl, rfl, rfl, rfl, (by rfl)⟩ ?_
   rintro ⟨⟨i, q, o⟩, hinv0⟩
   obtain ⟨hi, hI, hq, hO⟩ : (i ≤ n) ∧ (CI a b i o) ∧ (ka0 o = q ∧ q ≤ 64) ∧ (BsW o) := hinv0
   refine qN (l := [(1, .e (kQ b m)), (6, oV 1 0 q 4), (21, .e (kQ a n)), (22, uV n), (23, uV i)]) (g := [(1, some (59, .ds (kP o)))]) (nx := 2) rfl rfl rfl ?_
   by_cases hx3 : (((i : Nat) : Int) < ((n : Nat) : Int))
   ·refine kI [.b true] (((i : Int) < (n : Int))) [(1, .e (kQ b m)), (6, oV 1 0 q 4), (21, .e (kQ a n)), (22, uV n), (23, uV i), (24, bV true)] [(1, some (59, .ds (kP o)))] 2 zo ?_
    refine AW.seq ?_
    refine yW ?_
    refine AW.seq ?_
    refine AW.block ?_
    obtain ⟨hx4, hx5, hx6, hx7, hx8⟩ := BsW.at (kZ : BsW a) (i)
    refine kI [.n i, .ds (uY a i), .no, .no] ((kM (i : Int)) ∧ (i < n) ∧ (ka5 4 (ka3 (i * 4) (kP a)) = (uY a i)) ∧ (((uY a i) : List D).length = 4)) [(1, .e (kQ b m)), (6, oV 1 0 q 4), (8, rV 2 0), (21, .e (kQ a n)), (22, uV n), (23, uV i)] [(1, some (59, .ds (kP o))), (2, some (59, (aU a i)))] 3 ⟨rfl, zo, (yF zo), rfl⟩ ?_
    refine kN [.no, .no, .no] True [(1, .e (kQ b m)), (6, oV 1 0 q 4), (8, rV 2 0), (21, .e (kQ a n)), (22, uV n), (23, uV i), (27, .e (kQ b m)), (28, uV m), (29, iV 0)] trivial ?_
    refine AW.block ?_
    refine kU 0 hcx (fun (x : {x : Nat × Nat × List Bx // match x with | (j, p, x) => (j ≤ m) ∧ (CJ2 a b i j x) ∧ (ka0 x = p ∧ p ≤ 64) ∧ (BsW x)}) => match x with | ⟨(j, p, x), _⟩ => (⟨[(1, .e (kQ b m)), (6, oV 3 0 p 4), (8, rV 2 0), (21, .e (kQ a n)), (22, uV n), (23, uV i), (27, .e (kQ b m)), (28, uV m), (29, uV j)], [(3, some (59, .ds (kP x))), (2, some (59, (aU a i)))], 4⟩ : ES)) (fun x => match x with | ⟨(j, p, x), _⟩ => m - j) ⟨((0 : Nat), (q : Nat), (o : List Bx)), ⟨zo, hI.in, (by assumption), hO⟩⟩ [(3, 1)] (P := (kJ (kP b)) ∧ (kG m) ∧ (kG 0) ∧ (kG q) ∧ (kG 0) ∧ (kJ (kP a)) ∧ (kG n) ∧ (kM (n : Int)) ∧ (kM (i : Int)) ∧ (kJ (kP b)) ∧ (kG m) ∧ (kM (m : Int)) ∧ (kM 0) ∧ (kJ (kP o)) ∧ (kJ (uY a i))) zk ⟨rfl, rfl, rfl, rfl, rfl, rfl, rfl, rfl, rfl, rfl, rfl, rfl, rfl, rfl, rfl⟩ ?_
    rintro ⟨⟨j, p, x⟩, hinv1⟩
    obtain ⟨hj, hJ, hp, hX⟩ : (j ≤ m) ∧ (CJ2 a b i j x) ∧ (ka0 x = p ∧ p ≤ 64) ∧ (BsW x) := hinv1
    refine qN (l := [(1, .e (kQ b m)), (6, oV 3 0 p 4), (8, rV 2 0), (21, .e (kQ a n)), (22, uV n), (23, uV i), (27, .e (kQ b m)), (28, uV m), (29, uV j)]) (g := [(3, some (59, .ds (kP x))), (2, some (59, (aU a i)))]) (nx := 4) rfl rfl rfl ?_
    by_cases hx9 : (((j : Nat) : Int) < ((m : Nat) : Int))
    ·refine kI [.b true] (((j : Int) < (m : Int))) [(1, .e (kQ b m)), (6, oV 3 0 p 4), (8, rV 2 0), (21, .e (kQ a n)), (22, uV n), (23, uV i), (27, .e (kQ b m)), (28, uV m), (29, uV j), (30, bV true)] [(2, some (59, (aU a i))), (3, some (59, .ds (kP x)))] 4 zo ?_
     refine AW.seq ?_
     refine yW ?_
     refine AW.seq ?_
     refine AW.block ?_
     obtain ⟨hx10, hx11, hx12, hx13, hx14⟩ := BsW.at (kZ : BsW b) (j)
     refine kI [.n j, .ds (uY b j), .no, .no] ((kM (j : Int)) ∧ (j < m) ∧ (ka5 4 (ka3 (j * 4) (kP b)) = (uY b j)) ∧ (((uY b j) : List D).length = 4)) [(1, .e (kQ b m)), (6, oV 3 0 p 4), (8, rV 2 0), (10, rV 4 0), (21, .e (kQ a n)), (22, uV n), (23, uV i), (27, .e (kQ b m)), (28, uV m), (29, uV j)] [(2, some (59, (aU a i))), (3, some (59, .ds (kP x))), (4, some (59, .ds (uY b j)))] 5 ⟨rfl, zo, (yF zo), rfl⟩ ?_
     rcases ka6 (xsB (qF a i) (qB a i) (qF b j) (qB b j) (qG a i) (qC a i) (qG b j) (qC b j)) with hx15 | hx15
     ·have hx16 : ((ka0 (qK a i b j)) ≤ (ka0 (kY a i))) := aO (kY a i) (kY b j) (ka0 (kY a i))
      have hx17 : ((ka0 (u6 a i b j)) = ((uU a i b j) * 2)) := yM _ _
      have hx18 : ((uU a i b j) ≤ 64) := a9 _ _
      have hx19 : ((ka0 (u5 a i b j)) = ((uT a i b j) * 2)) := yM _ _
      have hx20 : ((uT a i b j) ≤ 64) := a9 _ _
      have hx21 : (MsW (qK a i b j)) := gK ((BsW.ms (kZ : BsW a) _)) _ _
      refine kI (.no :: .no :: .call [] (.tup [.agg [iC (uR (k9 a i) (k9 b j)), .d (dl (u6 a i b j) (uU a i b j)), .d (D.sl (kL (qK a i b j)) (ka0 (qK a i b j))), .d (dl (u5 a i b j) (uT a i b j))], .c (.d (D.lit (.bool true)))]) [] 0 [] none :: kT 6 []) (Fun 42 [(b8 a i), (b8 b j)] (kE []) 0 (.tup [.agg [iC (uR (k9 a i) (k9 b j)), .d (dl (u6 a i b j) (uU a i b j)), .d (D.sl (kL (qK a i b j)) (ka0 (qK a i b j))), .d (dl (u5 a i b j) (uT a i b j))], .c (.d (D.lit (.bool true)))]) (kE []) 0) [(1, .e (kQ b m)), (6, oV 3 0 p 4), (8, rV 2 0), (11, rV 5 0), (12, bV true), (21, .e (kQ a n)), (22, uV n), (23, uV i), (27, .e (kQ b m)), (28, uV m), (29, uV j)] [(2, some (59, (aU a i))), (3, some (59, .ds (kP x))), (5, some (59, (k03 a i b j)))] 6 (by have h0 := (k1l (k9 a i) (qF a i) (qB a i) (kY a i) (ka0 (kY a i)) (qG a i) (qC a i) (k9 b j) (qF b j) (qB b j) (kY b j) (ka0 (kY b j)) (qG b j) (qC b j) zo zo rfl zo zo zo (BsW.ms (kZ : BsW a) _) zo zo rfl zo zo zo (BsW.ms (kZ : BsW b) _)); rw [hx15] at h0; exact h0) ?_
      refine AW.seq ?_
      rcases ka6 (dK (uR (k9 a i) (k9 b j)) (u6 a i b j) (uU a i b j) (qK a i b j) (u5 a i b j) (uT a i b j)) with hx22 | hx22
      ·refine kN [.no, .call [] (bV true) [] 0 [] none, .no] (Fun 43 [.agg [iC (uR (k9 a i) (k9 b j)), .d (dl (u6 a i b j) (uU a i b j)), .d (D.sl (kL (qK a i b j)) (ka0 (qK a i b j))), .d (dl (u5 a i b j) (uT a i b j))]] (kE []) 0 (bV true) (kE []) 0) [(1, .e (kQ b m)), (6, oV 3 0 p 4), (8, rV 2 0), (11, rV 5 0), (12, bV true), (21, .e (kQ a n)), (22, uV n), (23, uV i), (27, .e (kQ b m)), (28, uV m), (29, uV j), (41, bV false)] (by have h0 := (j3 (uR (k9 a i) (k9 b j)) (u6 a i b j) (uU a i b j) (qK a i b j) (ka0 (qK a i b j)) (u5 a i b j) (uT a i b j) zo zo rfl zo zo zo (kZ : MsW (qK a i b j))); rw [hx22] at h0; exact h0) ?_
       refine q8 ?_
       refine AW.seq ?_
       by_cases hx23 : (((p : Nat) : Int) = 64)
       ·refine kN (kT 5 [.b true, .no]) (((p : Int) = 64)) [(1, .e (kQ b m)), (6, oV 3 0 p 4), (8, rV 2 0), (11, rV 5 0), (21, .e (kQ a n)), (22, uV n), (23, uV i), (27, .e (kQ b m)), (28, uV m), (29, uV j), (48, bV true)] zo ?_
        refine zt ?_
        refine kI [.no, .no] True [(4, nV), (5, iV 3)] [] 6 trivial ?_
        obtain ⟨hz1, hz2⟩ := u28 hx1 hx2 (zI (i := i) (j := j) zo zo (by assumption) (by exact .inr (by rw [hJ.1]; omega)))
        refine yV (l' := [(4, qJ ([] : List D) 0), (5, iV 3)]) (g' := []) (NlS.cons rfl (.e (.c .nil)) (NlS.cons rfl (.same _) NlS.nil)) NlG.nil ?_
        refine AW.ret ?_
        exact kC (.inr rfl) [] (P := (((kP (yB a b)) : List D) = ([] : List D)) ∧ (((ka0 (yB a b)) : Nat) = 0) ∧ (((aM a b) : Int) = 3)) zk ⟨(by (rw [hz1]; rfl)), (by (rw [hz1]; rfl)), (by exact hz2)⟩
       ·refine kN (kT 5 [.b false, .no]) (¬ ((p : Int) = 64)) [(1, .e (kQ b m)), (6, oV 3 0 p 4), (8, rV 2 0), (11, rV 5 0), (21, .e (kQ a n)), (22, uV n), (23, uV i), (27, .e (kQ b m)), (28, uV m), (29, uV j), (48, bV false)] zo ?_
        refine q8 ?_
        refine aD [.no, .no, .no, .ap none (p + 1) (kP (x ++ ([(hU a i b j)] : List Bx))), .no] (([iD (uR (k9 a i) (k9 b j)), dl (u6 a i b j) (uU a i b j), D.sl (kL (qK a i b j)) (ka0 (qK a i b j)), dl (u5 a i b j) (uT a i b j)].length = 1 * 4) ∧ (((kP x) : List D).length = p * 4) ∧ ((p + 1) * 80 ≤ 140737488355328) ∧ (p + 1 = (p + 1)) ∧ (((kP x) : List D) ++ [iD (uR (k9 a i) (k9 b j)), dl (u6 a i b j) (uU a i b j), D.sl (kL (qK a i b j)) (ka0 (qK a i b j)), dl (u5 a i b j) (uT a i b j)] = (kP (x ++ ([(hU a i b j)] : List Bx))))) [(1, .e (kQ b m)), (6, oV 7 0 (p + 1) 4), (8, rV 2 0), (21, .e (kQ a n)), (22, uV n), (23, uV i), (27, .e (kQ b m)), (28, uV m), (29, uV j)] [(2, some (59, (aU a i))), (7, some (59, .ds (kP (x ++ ([(hU a i b j)] : List Bx)))))] 8 ⟨aR, aR, zo, zo, (fZ x (uR (k9 a i) (k9 b j)) (u6 a i b j) (uU a i b j) (qK a i b j) (ka0 (qK a i b j)) (u5 a i b j) (uT a i b j) (by rfl))⟩ ?_
        refine uJ [.w, .no] (uZ ((j : Int) + 1)) [(1, .e (kQ b m)), (6, oV 7 0 (p + 1) 4), (8, rV 2 0), (21, .e (kQ a n)), (22, uV n), (23, uV i), (27, .e (kQ b m)), (28, uV m), (29, iV (↑j + 1))] ⟨by omega, by omega⟩ ?_
        exact kX ⟨(((j + 1) : Nat), ((p + 1) : Nat), ((x ++ ([(hU a i b j)] : List Bx)) : List Bx)), ⟨zo, (by exact hJ.y (by assumption) (by assumption) zo), xM, (by exact hX.app (BsW.one (u0m hW _ _)))⟩⟩ [(3, 7)] (P := (kJ (kP b)) ∧ (kG m) ∧ (kG 0) ∧ (kG (p + 1)) ∧ (kG 0) ∧ (kJ (kP a)) ∧ (kG n) ∧ (kM (n : Int)) ∧ (kM (i : Int)) ∧ (kJ (kP b)) ∧ (kG m) ∧ (kM (m : Int)) ∧ (vX j) ∧ (kJ (kP (x ++ ([(hU a i b j)] : List Bx)))) ∧ (kJ (uY a i))) zk ⟨rfl, rfl, rfl, rfl, rfl, rfl, rfl, rfl, rfl, rfl, rfl, rfl, (by rfl), rfl, rfl⟩ (show m - (j + 1) < m - j from zo)
      ·refine kN [.no, .call [] (bV false) [] 0 [] none, .no] (Fun 43 [.agg [iC (uR (k9 a i) (k9 b j)), .d (dl (u6 a i b j) (uU a i b j)), .d (D.sl (kL (qK a i b j)) (ka0 (qK a i b j))), .d (dl (u5 a i b j) (uT a i b j))]] (kE []) 0 (bV false) (kE []) 0) [(1, .e (kQ b m)), (6, oV 3 0 p 4), (8, rV 2 0), (11, rV 5 0), (12, bV true), (21, .e (kQ a n)), (22, uV n), (23, uV i), (27, .e (kQ b m)), (28, uV m), (29, uV j), (41, bV true)] (by have h0 := (j3 (uR (k9 a i) (k9 b j)) (u6 a i b j) (uU a i b j) (qK a i b j) (ka0 (qK a i b j)) (u5 a i b j) (uT a i b j) zo zo rfl zo zo zo (kZ : MsW (qK a i b j))); rw [hx22] at h0; exact h0) ?_
       refine zt ?_
       refine AW.exit ?_
       refine aD [.w, .no] (uZ ((j : Int) + 1)) [(1, .e (kQ b m)), (6, oV 3 0 p 4), (8, rV 2 0), (21, .e (kQ a n)), (22, uV n), (23, uV i), (27, .e (kQ b m)), (28, uV m), (29, iV (↑j + 1))] [(2, some (59, (aU a i))), (3, some (59, .ds (kP x)))] 6 ⟨by omega, by omega⟩ ?_
       exact kX ⟨(((j + 1) : Nat), (p : Nat), (x : List Bx)), ⟨zo, (by exact hJ.n (by assumption)), (by assumption), (by assumption)⟩⟩ [] (P := (kJ (kP b)) ∧ (kG m) ∧ (kG 0) ∧ (kG p) ∧ (kG 0) ∧ (kJ (kP a)) ∧ (kG n) ∧ (kM (n : Int)) ∧ (kM (i : Int)) ∧ (kJ (kP b)) ∧ (kG m) ∧ (kM (m : Int)) ∧ (vX j) ∧ (kJ (kP x)) ∧ (kJ (uY a i))) zk ⟨rfl, rfl, rfl, rfl, rfl, rfl, rfl, rfl, rfl, rfl, rfl, rfl, (by rfl), rfl, rfl⟩ (show m - (j + 1) < m - j from zo)
     ·have hx24 : ((ka0 (qK a i b j)) ≤ (ka0 (kY a i))) := aO (kY a i) (kY b j) (ka0 (kY a i))
      have hx25 : ((ka0 (u6 a i b j)) = ((uU a i b j) * 2)) := yM _ _
      have hx26 : ((uU a i b j) ≤ 64) := a9 _ _
      have hx27 : ((ka0 (u5 a i b j)) = ((uT a i b j) * 2)) := yM _ _
      have hx28 : ((uT a i b j) ≤ 64) := a9 _ _
      have hx29 : (MsW (qK a i b j)) := gK ((BsW.ms (kZ : BsW a) _)) _ _
      refine kI (.no :: .no :: .call [] (.tup [.agg [iC (uR (k9 a i) (k9 b j)), .d (dl (u6 a i b j) (uU a i b j)), .d (D.sl (kL (qK a i b j)) (ka0 (qK a i b j))), .d (dl (u5 a i b j) (uT a i b j))], .c (.d (D.lit (.bool false)))]) [] 0 [] none :: kT 6 []) (Fun 42 [(b8 a i), (b8 b j)] (kE []) 0 (.tup [.agg [iC (uR (k9 a i) (k9 b j)), .d (dl (u6 a i b j) (uU a i b j)), .d (D.sl (kL (qK a i b j)) (ka0 (qK a i b j))), .d (dl (u5 a i b j) (uT a i b j))], .c (.d (D.lit (.bool false)))]) (kE []) 0) [(1, .e (kQ b m)), (6, oV 3 0 p 4), (8, rV 2 0), (11, rV 5 0), (12, bV false), (21, .e (kQ a n)), (22, uV n), (23, uV i), (27, .e (kQ b m)), (28, uV m), (29, uV j)] [(2, some (59, (aU a i))), (3, some (59, .ds (kP x))), (5, some (59, (k03 a i b j)))] 6 (by have h0 := (k1l (k9 a i) (qF a i) (qB a i) (kY a i) (ka0 (kY a i)) (qG a i) (qC a i) (k9 b j) (qF b j) (qB b j) (kY b j) (ka0 (kY b j)) (qG b j) (qC b j) zo zo rfl zo zo zo (BsW.ms (kZ : BsW a) _) zo zo rfl zo zo zo (BsW.ms (kZ : BsW b) _)); rw [hx15] at h0; exact h0) ?_
      refine AW.seq ?_
      rcases ka6 (dK (uR (k9 a i) (k9 b j)) (u6 a i b j) (uU a i b j) (qK a i b j) (u5 a i b j) (uT a i b j)) with hx30 | hx30
      ·refine kN [.no, .call [] (bV true) [] 0 [] none, .no] (Fun 43 [.agg [iC (uR (k9 a i) (k9 b j)), .d (dl (u6 a i b j) (uU a i b j)), .d (D.sl (kL (qK a i b j)) (ka0 (qK a i b j))), .d (dl (u5 a i b j) (uT a i b j))]] (kE []) 0 (bV true) (kE []) 0) [(1, .e (kQ b m)), (6, oV 3 0 p 4), (8, rV 2 0), (11, rV 5 0), (12, bV false), (21, .e (kQ a n)), (22, uV n), (23, uV i), (27, .e (kQ b m)), (28, uV m), (29, uV j), (41, bV false)] (by have h0 := (j3 (uR (k9 a i) (k9 b j)) (u6 a i b j) (uU a i b j) (qK a i b j) (ka0 (qK a i b j)) (u5 a i b j) (uT a i b j) zo zo rfl zo zo zo (kZ : MsW (qK a i b j))); rw [hx30] at h0; exact h0) ?_
       refine q8 ?_
       refine AW.seq ?_
       refine kN (kT 4 []) True [(1, .e (kQ b m)), (6, oV 3 0 p 4), (8, rV 2 0), (11, rV 5 0), (21, .e (kQ a n)), (22, uV n), (23, uV i), (27, .e (kQ b m)), (28, uV m), (29, uV j), (48, bV true)] trivial ?_
       refine zt ?_
       refine kI [.no, .no] True [(4, nV), (5, iV 3)] [] 6 trivial ?_
       obtain ⟨hz1, hz2⟩ := u28 hx1 hx2 (zI (i := i) (j := j) zo zo (by assumption) (by exact .inl (by assumption)))
       refine yV (l' := [(4, qJ ([] : List D) 0), (5, iV 3)]) (g' := []) (NlS.cons rfl (.e (.c .nil)) (NlS.cons rfl (.same _) NlS.nil)) NlG.nil ?_
       refine AW.ret ?_
       exact kC (.inr rfl) [] (P := (((kP (yB a b)) : List D) = ([] : List D)) ∧ (((ka0 (yB a b)) : Nat) = 0) ∧ (((aM a b) : Int) = 3)) zk ⟨(by (rw [hz1]; rfl)), (by (rw [hz1]; rfl)), (by exact hz2)⟩
      ·refine kN [.no, .call [] (bV false) [] 0 [] none, .no] (Fun 43 [.agg [iC (uR (k9 a i) (k9 b j)), .d (dl (u6 a i b j) (uU a i b j)), .d (D.sl (kL (qK a i b j)) (ka0 (qK a i b j))), .d (dl (u5 a i b j) (uT a i b j))]] (kE []) 0 (bV false) (kE []) 0) [(1, .e (kQ b m)), (6, oV 3 0 p 4), (8, rV 2 0), (11, rV 5 0), (12, bV false), (21, .e (kQ a n)), (22, uV n), (23, uV i), (27, .e (kQ b m)), (28, uV m), (29, uV j), (41, bV true)] (by have h0 := (j3 (uR (k9 a i) (k9 b j)) (u6 a i b j) (uU a i b j) (qK a i b j) (ka0 (qK a i b j)) (u5 a i b j) (uT a i b j) zo zo rfl zo zo zo (kZ : MsW (qK a i b j))); rw [hx30] at h0; exact h0) ?_
       refine zt ?_
       refine AW.exit ?_
       refine aD [.w, .no] (uZ ((j : Int) + 1)) [(1, .e (kQ b m)), (6, oV 3 0 p 4), (8, rV 2 0), (21, .e (kQ a n)), (22, uV n), (23, uV i), (27, .e (kQ b m)), (28, uV m), (29, iV (↑j + 1))] [(2, some (59, (aU a i))), (3, some (59, .ds (kP x)))] 6 ⟨by omega, by omega⟩ ?_
       exact kX ⟨(((j + 1) : Nat), (p : Nat), (x : List Bx)), ⟨zo, (by exact hJ.n (by assumption)), (by assumption), (by assumption)⟩⟩ [] (P := (kJ (kP b)) ∧ (kG m) ∧ (kG 0) ∧ (kG p) ∧ (kG 0) ∧ (kJ (kP a)) ∧ (kG n) ∧ (kM (n : Int)) ∧ (kM (i : Int)) ∧ (kJ (kP b)) ∧ (kG m) ∧ (kM (m : Int)) ∧ (vX j) ∧ (kJ (kP x)) ∧ (kJ (uY a i))) zk ⟨rfl, rfl, rfl, rfl, rfl, rfl, rfl, rfl, rfl, rfl, rfl, rfl, (by rfl), rfl, rfl⟩ (show m - (j + 1) < m - j from zo)
    ·refine kI [.b false] (¬ ((j : Int) < (m : Int))) [(1, .e (kQ b m)), (6, oV 3 0 p 4), (8, rV 2 0), (21, .e (kQ a n)), (22, uV n), (23, uV i), (27, .e (kQ b m)), (28, uV m), (29, uV j), (30, bV false)] [(2, some (59, (aU a i))), (3, some (59, .ds (kP x)))] 4 zo ?_
     refine AW.seq ?_
     refine zf ?_
     refine AW.exit ?_
     refine aD [.w, .no] (uZ ((i : Int) + 1)) [(1, .e (kQ b m)), (6, oV 3 0 p 4), (21, .e (kQ a n)), (22, uV n), (23, iV (↑i + 1))] [(3, some (59, .ds (kP x)))] 4 ⟨by omega, by omega⟩ ?_
     exact kX ⟨(((i + 1) : Nat), (p : Nat), (x : List Bx)), ⟨zo, (hJ.out zo), (by assumption), (by assumption)⟩⟩ [(1, 3)] (P := (kJ (kP b)) ∧ (kG m) ∧ (kG 0) ∧ (kG p) ∧ (kJ (kP a)) ∧ (kG n) ∧ (kM (n : Int)) ∧ (vX i) ∧ (kJ (kP x))) zk ⟨rfl, rfl, rfl, rfl, rfl, rfl, rfl, (by rfl), rfl⟩ (show n - (i + 1) < n - i from zo)
   ·refine kI [.b false] (¬ ((i : Int) < (n : Int))) [(1, .e (kQ b m)), (6, oV 1 0 q 4), (21, .e (kQ a n)), (22, uV n), (23, uV i), (24, bV false)] [(1, some (59, .ds (kP o)))] 2 zo ?_
    refine AW.seq ?_
    refine zf ?_
    refine AW.exit ?_
    refine AW.freeze 1 (l' := [(1, .e (kQ b m)), (6, .e (kQ o q)), (21, .e (kQ a n)), (22, uV n), (23, uV i), (24, bV false)]) (g' := []) rfl (FzS.cons rfl (.same _) (FzS.cons rfl (.e (.c (@FzC.own 1 ((kP o) : List D) 0 q 4 true ((kP o) : List D) pH aR))) (FzS.cons rfl (.same _) (FzS.cons rfl (.same _) (FzS.cons rfl (.same _) (FzS.cons rfl (.same _) FzS.nil)))))) FzG.nil ?_
    have hx31 : ((ka0 (yA o)) ≤ q) := (ke3 (e7 o) (Nat.le_of_eq (zo)))
    have hx32 : (((0 : Int) ≤ (aA o)) ∧ ((aA o) ≤ 1)) := b7 o
    refine kI (.no :: .call [] (.tup [.c (.d (D.sl (kP (yA o)) (ka0 (yA o)))), iE (aA o)]) [] 0 [] none :: kT 4 []) _ [(4, .e (qW (yA o))), (5, iV (aA o))] [] 2 (k1k o q zo zo (kZ : BsW o)) ?_
    obtain ⟨hz1, hz2⟩ := u5d hx1 hx2 hI zo
    refine AW.ret ?_
    exact kC (.inr rfl) [] (P := (((kP (yB a b)) : List D) = (kP (yA o))) ∧ (((ka0 (yB a b)) : Nat) = (ka0 (yA o))) ∧ (((aM a b) : Int) = (aA o))) zk ⟨(by (rw [hz1]; done)), (by (rw [hz1]; done)), (by exact hz2)⟩
  ·refine kN [.no, .call [] (bV true) [] 0 [] none, .no, .no, .no, .call [] (bV false) [] 0 [] none, .no, .no] ((Fun 18 [.c (.d (D.sl (kP a) n))] (kE []) 0 (bV true) (kE []) 0) ∧ (Fun 18 [.c (.d (D.sl (kP b) m))] (kE []) 0 (bV false) (kE []) 0)) [(0, .e (kQ a n)), (1, .e (kQ b m)), (20, bV true)] ⟨(by have h0 := (v9 a n zo zo (kZ : BsW a)); rw [hx1] at h0; exact h0), (by have h0 := (v9 b m zo zo (kZ : BsW b)); rw [hx2] at h0; exact h0)⟩ ?_
   refine zt ?_
   refine kN [.no, .no] True [(4, nV), (5, iV 1)] trivial ?_
   obtain ⟨hz1, hz2⟩ := u5e hx2
   refine yV (l' := [(4, qJ ([] : List D) 0), (5, iV 1)]) (g' := []) (NlS.cons rfl (.e (.c .nil)) (NlS.cons rfl (.same _) NlS.nil)) NlG.nil ?_
   refine AW.ret ?_
   exact kC (.inr rfl) [] (P := (((kP (yB a b)) : List D) = ([] : List D)) ∧ (((ka0 (yB a b)) : Nat) = 0) ∧ (((aM a b) : Int) = 1)) zk ⟨(by (rw [hz1]; rfl)), (by (rw [hz1]; rfl)), (by exact hz2)⟩
 ·refine kN [.no, .call [] (bV false) [] 0 [] none, .no, .no, .no] (Fun 18 [.c (.d (D.sl (kP a) n))] (kE []) 0 (bV false) (kE []) 0) [(0, .e (kQ a n)), (1, .e (kQ b m)), (20, bV true)] (by have h0 := (v9 a n zo zo (kZ : BsW a)); rw [hx1] at h0; exact h0) ?_
  refine zt ?_
  refine kN [.no, .no] True [(4, nV), (5, iV 1)] trivial ?_
  obtain ⟨hz1, hz2⟩ := u5f hx1
  refine yV (l' := [(4, qJ ([] : List D) 0), (5, iV 1)]) (g' := []) (NlS.cons rfl (.e (.c .nil)) (NlS.cons rfl (.same _) NlS.nil)) NlG.nil ?_
  refine AW.ret ?_
  exact kC (.inr rfl) [] (P := (((kP (yB a b)) : List D) = ([] : List D)) ∧ (((ka0 (yB a b)) : Nat) = 0) ∧ (((aM a b) : Int) = 1)) zk ⟨(by (rw [hz1]; rfl)), (by (rw [hz1]; rfl)), (by exact hz2)⟩
end Go.Proofs.YtcfmjpnffembpaaGreat
