/- Reduced lists, intersections. No statement is proved here. -/
import Derived.Test.YtbicifcgghmhaaaGreatZL10Q
import Derived.Test.YtbicifcgghmhaaaGreatZL10G
namespace Go.Proofs.YtbicifcgghmhaaaGreat
open Go.ChangeShapes Go.WideShapes Go.ChangeAt Go.RowKit
open Bool renaming and_false → kd0, eq_false_or_eq_true → kb3, false_and → kh6, not_true → kl0, or_true → kn5
open List renaming drop → ka3, drop_drop → kc8, drop_zero → kc9, getD → ka1, getD_eq_getElem?_getD → ka7, getElem?_eq_getElem → ka8, length → ka0, length_append → ka6, length_cons → ka9, length_drop → kb2, length_map → kc4, length_nil → kb1, length_replicate → kb4, length_reverse → kc1, length_set → kb9, length_take → kb0, take → ka5, take_of_length_le → kb8
open Nat renaming le_of_ble_eq_true → ka4, le_trans → ke0, mul_one → kc7, zero_le → ke2
set_option linter.unusedVariables false
set_option linter.unusedSimpArgs false
/-! chapter 10: boxes within boxes; reduced lists; intersections -/
set_option maxHeartbeats 4000000
set_option maxRecDepth 100000
def pB (a b : Int) : Int := qM .andNot .i64 a b
def nhB (ms : List (List Int)) (m : List Int) : Bool := !(iK ms m)
theorem u6l {ms : List (List Int)} {m : List Int} (h : iK ms m = false) : nhB ms m = true := by unfold nhB; rw [h]; rfl
theorem u6m {ms : List (List Int)} {m : List Int} (h : iK ms m = true) : nhB ms m = false := by unfold nhB; rw [h]; rfl
def stK (a b : List (List Int)) : Nat → Int := jD fun j => nhB b (ka1 a j [])
theorem u9b {a b : List (List Int)} {k : Nat} (h : stK a b k = -1) (h2 : nhB b (ka1 a k []) = false) : stK a b (k + 1) = -1 := cF h h2
theorem u3j {a b : List (List Int)} {k : Nat} (h : stK a b k = -1) (h2 : nhB b (ka1 a k []) = true) {n : Nat} (hn : k < n) : stK a b n = (k : Int) := eX h h2 n hn
def sgB (a b : List (List Int)) : Bool := decide (∃ m ∈ a, m ∉ b)
theorem u9i {a b : List (List Int)} {n : Nat} (hn : a.length = n) (h : 0 ≤ stK a b n) : sgB a b = true := by
 obtain ⟨k, hk, h1⟩ := rA h
 have hk : k < a.length := by omega
 refine decide_eq_true ⟨a[k], List.getElem_mem hk, fun e => ?_⟩
 have e2 : ka1 a k [] = a[k] := by rw [ka7, ka8 hk]; rfl
 have h1 : nhB b (ka1 a k []) = true := h1
 rw [e2, u6m (decide_eq_true e)] at h1; cases h1
theorem u9j {a b : List (List Int)} {n : Nat} (hn : a.length = n) (h : ¬ 0 ≤ stK a b n) : sgB a b = false := by
 refine decide_eq_false fun ⟨m, hm, e⟩ => ?_
 obtain ⟨k, hk, rfl⟩ := List.mem_iff_getElem.1 hm
 have h1 := lI h k (by omega)
 have e2 : ka1 a k [] = a[k] := by rw [ka7, ka8 hk]; rfl
 have h1 : nhB b (ka1 a k []) = false := h1
 rw [e2, u6l (decide_eq_false e)] at h1; cases h1
def o4 (k : Int) (r : List Int) (rn : Nat) (m : List (List Int)) (s : List Int) (sn : Nat) (k2 : Int) (r2 : List Int) (rn2 : Nat) (m2 : List (List Int)) (s2 : List Int) (sn2 : Nat) : Bool := decide (pB k k2 = 0) && (x4 (kC r rn) (kC r2 rn2) && (!(sgB m m2) && x4 (kC s sn) (kC s2 sn2)))
theorem v3o {k : Int} {r : List Int} {rn : Nat} {m : List (List Int)} {s : List Int} {sn : Nat} {k2 : Int} {r2 : List Int} {rn2 : Nat} {m2 : List (List Int)} {s2 : List Int} {sn2 : Nat} (h1 : pB k k2 = 0) (h2 : x4 (kC r rn) (kC r2 rn2) = true) (h3 : sgB m m2 = false) (h4 : x4 (kC s sn) (kC s2 sn2) = true) : o4 k r rn m s sn k2 r2 rn2 m2 s2 sn2 = true := by
 unfold o4; rw [decide_eq_true h1, h2, h3, h4]; rfl
theorem v3s {k : Int} {r : List Int} {rn : Nat} {m : List (List Int)} {s : List Int} {sn : Nat} {k2 : Int} {r2 : List Int} {rn2 : Nat} {m2 : List (List Int)} {s2 : List Int} {sn2 : Nat} (h1 : ¬ pB k k2 = 0) : o4 k r rn m s sn k2 r2 rn2 m2 s2 sn2 = false := by
 unfold o4; rw [decide_eq_false h1]; rfl
theorem v3q {k : Int} {r : List Int} {rn : Nat} {m : List (List Int)} {s : List Int} {sn : Nat} {k2 : Int} {r2 : List Int} {rn2 : Nat} {m2 : List (List Int)} {s2 : List Int} {sn2 : Nat} (h2 : x4 (kC r rn) (kC r2 rn2) = false) : o4 k r rn m s sn k2 r2 rn2 m2 s2 sn2 = false := by
 unfold o4; rw [h2, kh6, kd0]
theorem v3r {k : Int} {r : List Int} {rn : Nat} {m : List (List Int)} {s : List Int} {sn : Nat} {k2 : Int} {r2 : List Int} {rn2 : Nat} {m2 : List (List Int)} {s2 : List Int} {sn2 : Nat} (h3 : sgB m m2 = true) : o4 k r rn m s sn k2 r2 rn2 m2 s2 sn2 = false := by
 unfold o4; rw [h3, kl0, kh6, kd0, kd0]
theorem v3p {k : Int} {r : List Int} {rn : Nat} {m : List (List Int)} {s : List Int} {sn : Nat} {k2 : Int} {r2 : List Int} {rn2 : Nat} {m2 : List (List Int)} {s2 : List Int} {sn2 : Nat} (h4 : x4 (kC s sn) (kC s2 sn2) = false) : o4 k r rn m s sn k2 r2 rn2 m2 s2 sn2 = false := by
 unfold o4; rw [h4, kd0, kd0, kd0]
def niE (xs : List Bx) (i : Nat) (ys : List Bx) (j : Nat) : Bool := o4 (kU xs i) (qG xs i) (qA xs i) (kX xs i) (qF xs i) (k9 xs i) (kU ys j) (qG ys j) (qA ys j) (kX ys j) (qF ys j) (k9 ys j)
def oO (xs : List Bx) (i j : Nat) : Bool := decide (j ≠ i) && (niE xs i xs j && (decide (j < i) || !(niE xs j xs i)))
def goB (xs : List Bx) (i : Nat) : Bool := decide (∃ j, j < xs.length ∧ oO xs i j = true)
theorem u79 {xs : List Bx} {i j : Nat} (hj : j < xs.length) (h : oO xs i j = true) : goB xs i = true := decide_eq_true ⟨j, hj, h⟩
theorem u1v {xs : List Bx} {i : Nat} (h : ∀ j, j < xs.length → oO xs i j = false) : goB xs i = false := decide_eq_false fun ⟨j, hj, e⟩ => by
 have := h j hj; rw [this] at e; cases e
theorem v44 {xs : List Bx} {i j : Nat} (h0 : ¬ j = i) (h1 : niE xs i xs j = true) (h2 : j < i) : oO xs i j = true := by
 unfold oO; rw [decide_eq_true h0, h1, decide_eq_true h2]; rfl
theorem v43 {xs : List Bx} {i j : Nat} (h0 : ¬ j = i) (h1 : niE xs i xs j = true) (h2 : niE xs j xs i = false) : oO xs i j = true := by
 unfold oO; rw [decide_eq_true h0, h1, h2, Bool.not_false, kn5]; rfl
theorem k7o {xs : List Bx} {i j : Nat} (h0 : j = i) : oO xs i j = false := by
 unfold oO; rw [decide_eq_false (fun e => e h0)]; rfl
theorem u7a {xs : List Bx} {i j : Nat} (h1 : niE xs i xs j = false) : oO xs i j = false := by
 unfold oO; rw [h1, kh6, kd0]
theorem u7b {xs : List Bx} {i j : Nat} (h1 : niE xs j xs i = true) (h2 : ¬ j < i) : oO xs i j = false := by
 unfold oO; rw [h1, decide_eq_false h2, kl0, Bool.or_false, kd0, kd0]
def bxP (xs : List Bx) (i : Nat) : Bx := kF (kU xs i) (qG xs i) (qA xs i) (kX xs i) (qF xs i) (k9 xs i)
def pK (xs : List Bx) : Nat → List Bx
 | 0 => []
 | i + 1 => if goB xs i = true then pK xs i else pK xs i ++ [bxP xs i]
theorem u9p {xs o : List Bx} {i : Nat} (h : pK xs i = o) (h1 : goB xs i = true) : pK xs (i + 1) = o := by subst h; exact if_pos h1
theorem u9q {xs o : List Bx} {i : Nat} (h : pK xs i = o) (h1 : goB xs i = false) : pK xs (i + 1) = o ++ [kF (kU xs i) (qG xs i) (qA xs i) (kX xs i) (qF xs i) (k9 xs i)] := by subst h; exact if_neg (by rw [h1]; decide)
def bG (xs : List Bx) : List Bx := if dA xs = true then pK xs xs.length else []
def jR (xs : List Bx) : Int := if dA xs = true then 0 else 1
theorem k5t {xs : List Bx} (h : dA xs = true) : bG xs = pK xs xs.length ∧ jR xs = 0 := ⟨if_pos h, if_pos h⟩
theorem u9t {xs : List Bx} (h : dA xs = false) : bG xs = [] ∧ jR xs = 1 := ⟨if_neg (by rw [h]; decide), if_neg (by rw [h]; decide)⟩
theorem k5s {xs : List Bx} (h : BsW xs) : ∀ i, BsW (pK xs i)
 | 0 => BsW.nil
 | i + 1 => by
  rw [pK]; split
  ·exact k5s h i
  ·exact (k5s h i).app (BsW.one (h.box i))
theorem k0n (xs : List Bx) : ∀ i, ka0 (pK xs i) ≤ i
 | 0 => Nat.le_refl _
 | i + 1 => by
  have := k0n xs i
  rw [pK]; split
  ·omega
  ·rw [ka6, List.length_singleton]; omega
theorem k5v {xs : List Bx} (h : BsW xs) : BsW (bG xs) := by unfold bG; split; exact k5s h _; exact BsW.nil
theorem nP (xs : List Bx) : ka0 (bG xs) ≤ ka0 xs := by unfold bG; split; exact k0n xs _; exact ke2 _
theorem iT (xs : List Bx) : 0 ≤ jR xs ∧ jR xs ≤ 1 := by unfold jR; split <;> decide
def eG (l : List Int) (v : Int) : Nat → List Int
 | 0 => []
 | k + 1 => if v < ka1 l (k * 2 + 1) 0 then eG l v k ++ [max (ka1 l (k * 2) 0) (v + 1), ka1 l (k * 2 + 1) 0] else eG l v k
def l3 (l : List Int) (v : Int) (k : Nat) : Nat := (eG l v k).length / 2
theorem v25 {l o : List Int} {v x y : Int} {k : Nat} (h : eG l v k = o) (h1 : v < ka1 l (k * 2 + 1) 0) (hx : x = max (ka1 l (k * 2) 0) (v + 1)) (hy : y = ka1 l (k * 2 + 1) 0) : eG l v (k + 1) = o ++ [x, y] := by subst h; rw [hx, hy]; exact if_pos h1
theorem v26 {l o : List Int} {v : Int} {k : Nat} (h : eG l v k = o) (h1 : ¬ v < ka1 l (k * 2 + 1) 0) : eG l v (k + 1) = o := by subst h; exact if_neg h1
theorem tZ (l : List Int) (v : Int) (k : Nat) : ka0 (eG l v k) = l3 l v k * 2 ∧ l3 l v k ≤ k := by
 have h : ∃ j, j ≤ k ∧ ka0 (eG l v k) = j * 2 := by
  induction k with
  | zero => exact ⟨0, Nat.le_refl _, rfl⟩
  | succ k ih =>
   obtain ⟨j, hj, e⟩ := ih
   rw [eG]; split
   ·exact ⟨j + 1, by omega, by rw [ka6, e]; simp only [ka9, kb1]; omega⟩
   ·exact ⟨j, by omega, e⟩
 obtain ⟨j, hj, e⟩ := h
 unfold l3; omega
def mJ (r : List Int) (rn : Nat) (r2 : List Int) (rn2 : Nat) : Bool := decide (qT (kC r rn) (kC r2 rn2) < 64) || decide (qT (kC (eG r (ka1 (uR (kC r rn) (kC r2 rn2)) 127 0) rn) (l3 r (ka1 (uR (kC r rn) (kC r2 rn2)) 127 0) rn)) (kC r2 rn2) = 0)
theorem u6u {r : List Int} {rn : Nat} {r2 : List Int} {rn2 : Nat} (h : qT (kC r rn) (kC r2 rn2) < 64) : mJ r rn r2 rn2 = true := by unfold mJ; rw [decide_eq_true h]; rfl
theorem v3t {r : List Int} {rn : Nat} {r2 : List Int} {rn2 : Nat} (h : qT (kC (eG r (ka1 (uR (kC r rn) (kC r2 rn2)) 127 0) rn) (l3 r (ka1 (uR (kC r rn) (kC r2 rn2)) 127 0) rn)) (kC r2 rn2) = 0) : mJ r rn r2 rn2 = true := by unfold mJ; rw [decide_eq_true h, kn5]
theorem v3u {r : List Int} {rn : Nat} {r2 : List Int} {rn2 : Nat} (h1 : ¬ qT (kC r rn) (kC r2 rn2) < 64) (h : ¬ qT (kC (eG r (ka1 (uR (kC r rn) (kC r2 rn2)) 127 0) rn) (l3 r (ka1 (uR (kC r rn) (kC r2 rn2)) 127 0) rn)) (kC r2 rn2) = 0) : mJ r rn r2 rn2 = false := by unfold mJ; rw [decide_eq_false h, decide_eq_false h1]; rfl
theorem u49 {a b : List Int} {n m : Nat} (ha : a.length = n * 2) (hb : b.length = m * 2) : cD (qY (uR (kC a n) (kC b m))) := by
 unfold uR; rw [lD]
 have h := k2x (uS ha) (uS hb)
 have e := List.take_append_drop 64 (aX (qY (kC a n)) (qY (kC b m)))
 generalize ka5 64 (aX (qY (kC a n)) (qY (kC b m))) = t at *
 generalize ka3 64 (aX (qY (kC a n)) (qY (kC b m))) = d at *
 rw [← e] at h
 clear e
 induction t with
 | nil => trivial
 | cons p t ih => exact ⟨h.1, fun q hq => h.2.1 q (List.mem_append_left _ hq), ih h.2.2⟩
theorem v0y {a b : List Int} {n m : Nat} (ha : a.length = n * 2) (hb : b.length = m * 2) (h : 64 ≤ qT (kC a n) (kC b m)) : 0 ≤ ka1 (uR (kC a n) (kC b m)) 127 0 ∧ ka1 (uR (kC a n) (kC b m)) 127 0 ≤ 2147483647 := by
 have h1 := dE (u49 ha hb) _ ((yR (yI (kC a n) (kC b m))).2 ⟨63, by omega, rfl⟩)
 unfold dZ at h1
 have h1 : 0 ≤ ka1 (uR (kC a n) (kC b m)) 126 0 ∧ ka1 (uR (kC a n) (kC b m)) 126 0 ≤ ka1 (uR (kC a n) (kC b m)) 127 0 ∧ ka1 (uR (kC a n) (kC b m)) 127 0 ≤ 2147483647 := h1
 omega
def xsB (r : List Int) (rn : Nat) (r2 : List Int) (rn2 : Nat) (s : List Int) (sn : Nat) (s2 : List Int) (sn2 : Nat) : Bool := mJ r rn r2 rn2 && mJ s sn s2 sn2
theorem u8y {r : List Int} {rn : Nat} {r2 : List Int} {rn2 : Nat} {s : List Int} {sn : Nat} {s2 : List Int} {sn2 : Nat} (h1 : mJ r rn r2 rn2 = true) (h2 : mJ s sn s2 sn2 = true) : xsB r rn r2 rn2 s sn s2 sn2 = true := by unfold xsB; rw [h1, h2]; rfl
theorem v2u {r : List Int} {rn : Nat} {r2 : List Int} {rn2 : Nat} {s : List Int} {sn : Nat} {s2 : List Int} {sn2 : Nat} (h1 : mJ r rn r2 rn2 = false) : xsB r rn r2 rn2 s sn s2 sn2 = false := by unfold xsB; rw [h1]; rfl
theorem v2t {r : List Int} {rn : Nat} {r2 : List Int} {rn2 : Nat} {s : List Int} {sn : Nat} {s2 : List Int} {sn2 : Nat} (h2 : mJ s sn s2 sn2 = false) : xsB r rn r2 rn2 s sn s2 sn2 = false := by unfold xsB; rw [h2, kd0]
/-! the boxes made of each box of one list with each box of another one -/
def crB (xs ys : List Bx) (i j : Nat) : Bx := kF (qV (kU xs i) (kU ys j)) (uR (kC (qG xs i) (qA xs i)) (kC (qG ys j) (qA ys j))) (qT (kC (qG xs i) (qA xs i)) (kC (qG ys j) (qA ys j))) (u9 (kX xs i) (kX ys j) (ka0 (kX xs i))) (uR (kC (qF xs i) (k9 xs i)) (kC (qF ys j) (k9 ys j))) (qT (kC (qF xs i) (k9 xs i)) (kC (qF ys j) (k9 ys j)))
def crV (xs ys : List Bx) (i j : Nat) : Bool := gO (qV (kU xs i) (kU ys j)) (uR (kC (qG xs i) (qA xs i)) (kC (qG ys j) (qA ys j))) (qT (kC (qG xs i) (qA xs i)) (kC (qG ys j) (qA ys j))) (u9 (kX xs i) (kX ys j) (ka0 (kX xs i))) (uR (kC (qF xs i) (k9 xs i)) (kC (qF ys j) (k9 ys j))) (qT (kC (qF xs i) (k9 xs i)) (kC (qF ys j) (k9 ys j)))
def crS (xs ys : List Bx) (i j : Nat) : Bool := xsB (qG xs i) (qA xs i) (qG ys j) (qA ys j) (qF xs i) (k9 xs i) (qF ys j) (k9 ys j)
theorem k37 {xs ys : List Bx} (h : BsW xs) (i j : Nat) : BxW (crB xs ys i j) := by
 refine ⟨yI _ _, yI _ _, ke0 (aJ _ _) (by decide), ke0 (aJ _ _) (by decide), ?_, rC (h.ms i) _ _⟩
 have h1 := cX (kX xs i) (kX ys j) (ka0 (kX xs i))
 have h2 := h.at i
 show ka0 (u9 _ _ _) ≤ _
 omega
def cjL (xs ys : List Bx) (i : Nat) (o : List Bx) : Nat → List Bx
 | 0 => o
 | j + 1 => if crV xs ys i j = true then cjL xs ys i o j ++ [crB xs ys i j] else cjL xs ys i o j
def ciL (xs ys : List Bx) : Nat → List Bx
 | 0 => []
 | i + 1 => cjL xs ys i (ciL xs ys i) (ka0 ys)
def ljB (xs ys : List Bx) (i : Nat) (b : Bool) : Nat → Bool
 | 0 => b
 | j + 1 => ljB xs ys i b j && (!(crV xs ys i j) || (crS xs ys i j && decide (ka0 (cjL xs ys i (ciL xs ys i) j) ≠ 64)))
def liB (xs ys : List Bx) : Nat → Bool
 | 0 => true
 | i + 1 => ljB xs ys i (liB xs ys i) (ka0 ys)
theorem k2t (xs ys : List Bx) (i : Nat) (b : Bool) (j : Nat) : ∀ k, ljB xs ys i b j = false → ljB xs ys i b (j + k) = false
 | 0, h => h
 | k + 1, h => by
  show (ljB xs ys i b (j + k) && _) = false
  rw [k2t xs ys i b j k h]; rfl
theorem v0u (xs ys : List Bx) (i : Nat) : ∀ k, ljB xs ys i false k = false
 | 0 => rfl
 | k + 1 => by
  show (ljB xs ys i false k && _) = false
  rw [v0u xs ys i k]; rfl
theorem k2u (xs ys : List Bx) (i : Nat) : ∀ k, liB xs ys i = false → liB xs ys (i + k) = false
 | 0, h => h
 | k + 1, h => by
  show ljB xs ys (i + k) (liB xs ys (i + k)) _ = false
  rw [k2u xs ys i k h]; exact v0u ..
theorem k76 {xs ys : List Bx} {i j : Nat} (hi : i < ka0 xs) (hj : j < ka0 ys) (h1 : crV xs ys i j = true) (h2 : crS xs ys i j = false ∨ ka0 (cjL xs ys i (ciL xs ys i) j) = 64) : liB xs ys (ka0 xs) = false := by
 have a1 : ljB xs ys i (liB xs ys i) (j + 1) = false := by
  show (_ && (!(crV xs ys i j) || _)) = false
  rw [h1]
  rcases h2 with h2 | h2
  ·rw [h2]; simp
  ·rw [h2]; simp
 have a2 := k2t xs ys i (liB xs ys i) (j + 1) (ka0 ys - (j + 1)) a1
 rw [show j + 1 + (ka0 ys - (j + 1)) = ka0 ys by omega] at a2
 have a3 := k2u xs ys (i + 1) (ka0 xs - (i + 1)) a2
 rw [show i + 1 + (ka0 xs - (i + 1)) = ka0 xs by omega] at a3
 exact a3
def CI (xs ys : List Bx) (i : Nat) (o : List Bx) : Prop := ciL xs ys i = o ∧ liB xs ys i = true
def CJ2 (xs ys : List Bx) (i j : Nat) (o : List Bx) : Prop := cjL xs ys i (ciL xs ys i) j = o ∧ ljB xs ys i (liB xs ys i) j = true
theorem CI.zero (xs ys : List Bx) : CI xs ys 0 [] := ⟨rfl, rfl⟩
theorem CI.in {xs ys : List Bx} {i : Nat} {o : List Bx} (h : CI xs ys i o) : CJ2 xs ys i 0 o := h
theorem CJ2.out {xs ys : List Bx} {i j : Nat} {o : List Bx} (h : CJ2 xs ys i j o) (hj : j = ka0 ys) : CI xs ys (i + 1) o := by subst hj; exact h
theorem CJ2.n {xs ys : List Bx} {i j : Nat} {o : List Bx} (h : CJ2 xs ys i j o) (h1 : crV xs ys i j = false) : CJ2 xs ys i (j + 1) o := by
 refine ⟨?_, ?_⟩
 ·show (if crV xs ys i j = true then _ else _) = o
  rw [if_neg (by rw [h1]; decide)]; exact h.1
 ·show (ljB xs ys i (liB xs ys i) j && _) = true
  rw [h.2, h1]; rfl
theorem CJ2.y {xs ys : List Bx} {i j : Nat} {o : List Bx} (h : CJ2 xs ys i j o) (h1 : crV xs ys i j = true) (h2 : crS xs ys i j = true) (h3 : ¬ ka0 o = 64) : CJ2 xs ys i (j + 1) (o ++ [crB xs ys i j]) := by
 refine ⟨?_, ?_⟩
 ·show (if crV xs ys i j = true then _ else _) = _
  rw [if_pos h1, h.1]
 ·show (ljB xs ys i (liB xs ys i) j && (!(crV xs ys i j) || (crS xs ys i j && decide _))) = true
  rw [h.2, h1, h2, h.1, decide_eq_true h3]; rfl
def ixV (a b : List Bx) : Bool := dA a && dA b
def yY (a b : List Bx) : List Bx := if ixV a b = true then (if liB a b (ka0 a) = true then bG (ciL a b (ka0 a)) else []) else []
def fD (a b : List Bx) : Int := if ixV a b = true then (if liB a b (ka0 a) = true then jR (ciL a b (ka0 a)) else 3) else 1
theorem v40 {a b : List Bx} (h : dA a = false) : yY a b = [] ∧ fD a b = 1 := by unfold yY fD ixV; rw [h]; exact ⟨rfl, rfl⟩
theorem v3z {a b : List Bx} (h : dA b = false) : yY a b = [] ∧ fD a b = 1 := by unfold yY fD ixV; rw [h, kd0]; exact ⟨rfl, rfl⟩
theorem v0x {a b : List Bx} (h1 : dA a = true) (h2 : dA b = true) (h : liB a b (ka0 a) = false) : yY a b = [] ∧ fD a b = 3 := by unfold yY fD ixV; rw [h1, h2, h]; exact ⟨rfl, rfl⟩
theorem u70 {a b o : List Bx} {i : Nat} (h1 : dA a = true) (h2 : dA b = true) (h : CI a b i o) (hi : i = ka0 a) : yY a b = bG o ∧ fD a b = jR o := by
 subst hi
 unfold yY fD ixV; rw [h1, h2, h.1, h.2]; exact ⟨rfl, rfl⟩
theorem k9o {xs ys : List Bx} (h : BsW xs) (i : Nat) {o : List Bx} (ho : BsW o) : ∀ j, BsW (cjL xs ys i o j)
 | 0 => ho
 | j + 1 => by
  rw [cjL]; split
  ·exact (k9o h i ho j).app (BsW.one (k37 h i j))
  ·exact k9o h i ho j
theorem u4w {xs ys : List Bx} (h : BsW xs) : ∀ i, BsW (ciL xs ys i)
 | 0 => BsW.nil
 | i + 1 => k9o h i (u4w h i) _
theorem u48 {a b : List Bx} (h : BsW a) : BsW (yY a b) := by
 unfold yY; split
 ·split
  ·exact k5v (u4w h _)
  ·exact BsW.nil
 ·exact BsW.nil
theorem tA (a b : List Bx) : 0 ≤ fD a b ∧ fD a b ≤ 3 := by
 unfold fD; split
 ·split
  ·have := iT (ciL a b (ka0 a)); omega
  ·decide
 ·decide
theorem k0o (xs : List Bx) : ka0 (bG xs) ≤ 64 := by
 unfold bG; split
 ·rename_i h
  have h1 := (of_decide_eq_true h).1
  exact ke0 (k0n xs _) h1
 ·exact ke2 _
theorem s9 (a b : List Bx) : ka0 (yY a b) ≤ 64 := by
 unfold yY; split
 ·split
  ·exact k0o _
  ·exact ke2 _
 ·exact ke2 _
def siX (k r : Int) (m : List Int) (z : Int) : List Bx := [kF (IntKind.i64.wrap (1 * ((2 ^ k.toNat : Nat) : Int))) [r, r] 1 [m] [z, z] 1]
def qO (k r : Int) (m : List Int) (z : Int) : List Bx := if 1 ≤ k ∧ k ≤ 7 then kM (siX k r m z) else []
theorem u3l (k r : Int) (m : List Int) (z : Int) (h : ka0 m ≤ 1000000) : BsW (siX k r m z) := BsW.one ⟨rfl, rfl, (by decide : 1 ≤ 1000000), (by decide : 1 ≤ 1000000), (by decide : 1 ≤ 1000000), fun l hl => by rw [List.mem_singleton.1 hl]; exact h⟩
theorem u9g (k r : Int) (m : List Int) (z : Int) (h : ka0 m ≤ 1000000) : BsW (qO k r m z) := by
 unfold qO; split; exact eF (u3l k r m z h); exact BsW.nil
theorem k0k (k r : Int) (m : List Int) (z : Int) : ka0 (qO k r m z) ≤ 1 := by
 unfold qO; split; exact lN _; exact ke2 _
theorem k2n {m : List (List Int)} {z : Nat} (h : z < m.length) : kL (ka5 (z + 1) m) = kL (ka5 z m ++ [ka1 m z []]) := by
 rw [List.take_succ_eq_append_getElem h, ka7, ka8 h]; rfl
theorem u5d (a : List Int) (n : Nat) (k : Int) (r : List Int) (rn : Nat) (m : List (List Int)) (c : Nat) (s : List Int) (sn : Nat) (hn : ka0 a = n) (h1 : n ≤ 1000000) (hc : ka0 m = c) (h3 : c ≤ 1000000) (hW : MsW m) : Fun 130 [.c (.d (D.sl (dI .i64 a) n)), .c (.ptr 0 0)] (kH [(0, some (63, .ds [iD k, D.sl (dI .i64 r) rn, D.sl (kL m) c, D.sl (dI .i64 s) sn]))]) 1 (yM (D.lit (.bool (nhB m a)))) (kH [(0, some (63, .ds [iD k, D.sl (dI .i64 r) rn, D.sl (kL m) c, D.sl (dI .i64 s) sn]))]) 1 := by
 refine Fun.mk (n := 9) Tryz.func130 rfl rfl (ka4 rfl) ?_
 intro cx hcx
 refine kK [.no] True [(0, sV .i64 a n), (1, rV 0 0)] [(0, some (63, .ds [iD k, dl r rn, D.sl (kL m) c, dl s sn]))] 1 trivial ?_
 rcases kb3 (iK m a) with hx1 | hx1
 ·refine kT [.no, .no, .no, .call [] (bV true) [] 0 [] none, .no, .no] (Fun 126 [.c (.d (D.sl (kL m) c)), .c (.d (dl a n))] (kH []) 0 (bV true) (kH []) 0) [(3, bV false)] (by have h0 := (jP m c a n zo zo zo zo (qJ : MsW m)); rw [hx1] at h0; exact h0) ?_
  refine AW.ret ?_
  exact kB (.inr rfl) [] (P := ((nhB m a) = false) ∧ (kN [iD k, dl r rn, D.sl (kL m) c, dl s sn])) zk ⟨(by first | exact u6l (by assumption) | exact u6m (by assumption)), rfl⟩
 ·refine kT [.no, .no, .no, .call [] (bV false) [] 0 [] none, .no, .no] (Fun 126 [.c (.d (D.sl (kL m) c)), .c (.d (dl a n))] (kH []) 0 (bV false) (kH []) 0) [(3, bV true)] (by have h0 := (jP m c a n zo zo zo zo (qJ : MsW m)); rw [hx1] at h0; exact h0) ?_
  refine AW.ret ?_
  exact kB (.inr rfl) [] (P := ((nhB m a) = true) ∧ (kN [iD k, dl r rn, D.sl (kL m) c, dl s sn])) zk ⟨(by first | exact u6l (by assumption) | exact u6m (by assumption)), rfl⟩
theorem yH {p : Prop} (h : p := by first | omega | assumption | simp) : p := h
theorem bI {p : Prop} (h : p := by first | omega | (simp only [k8, kZ, ka6, ka9, kb1, kb0, kb2] <;> omega)) : p := h
theorem kO {p : Prop} (h : p := by first | omega | with_reducible assumption | (simp only [k8, kZ, ka6, ka9, kb1, kb0, kb2, kb4, kb9] <;> omega) | rfl | assumption) : p := h
theorem bH {p : Prop} (h : p := by first | rfl | omega | assumption | (simp; done) | (simp; omega)) : p := h
theorem vZ {p : Prop} (h : p := by first | omega | (show _ < _; simp; omega)) : p := h
abbrev b8 (k : Int) (r : List Int) (rn : Nat) (m : List (List Int)) (c : Nat) (s : List Int) (sn : Nat) : BC := .ds [iD k, D.sl (dI .i64 r) rn, D.sl (kL m) c, D.sl (dI .i64 s) sn]
theorem u5c (a : List (List Int)) (n : Nat) (k : Int) (r : List Int) (rn : Nat) (m : List (List Int)) (c : Nat) (s : List Int) (sn : Nat) (hn : ka0 a = n) (h1 : n ≤ 1000000) (hA : MsW a) (hc : ka0 m = c) (h3 : c ≤ 1000000) (hW : MsW m) : Fun 159 [.c (.d (D.sl (kL a) n)), .c (.fn 130 [(0, 0)])] (kH [(0, some (63, .ds [iD k, D.sl (dI .i64 r) rn, D.sl (kL m) c, D.sl (dI .i64 s) sn]))]) 1 (iV (stK a m n)) (kH [(0, some (63, .ds [iD k, D.sl (dI .i64 r) rn, D.sl (kL m) c, D.sl (dI .i64 s) sn]))]) 1 := by
 refine Fun.mk (n := 19) Tryz.func159 rfl rfl (ka4 rfl) ?_
 intro cx hcx
 refine kK [.no] True [(0, qK (kL a) n), (1, .e (.c (.fn 130 [(0, 0)])))] [(0, some (63, (b8 k r rn m c s sn)))] 1 trivial ?_
 refine AW.seq ?_
 refine kT [.no, .no, .no] True [(0, qK (kL a) n), (1, .e (.c (.fn 130 [(0, 0)]))), (7, uV n), (8, iV 0)] trivial ?_
 refine AW.block ?_
 refine qH 1 hcx (fun (x : {x : Nat // match x with | z => (z ≤ n) ∧ (stK a m z = -1)}) => match x with | ⟨z, _⟩ => (⟨[(0, qK (kL a) n), (1, .e (.c (.fn 130 [(0, 0)]))), (7, uV n), (8, uV z)], [(0, some (63, (b8 k r rn m c s sn)))], 1⟩ : ES)) (fun x => match x with | ⟨z, _⟩ => n - z) ⟨(0 : Nat), ⟨yH, rfl⟩⟩ [] (P := (kN (kL a)) ∧ (kJ n) ∧ (kS (n : Int)) ∧ (kS 0) ∧ (kN [iD k, dl r rn, D.sl (kL m) c, dl s sn])) zk ⟨rfl, rfl, rfl, rfl, rfl⟩ ?_
 rintro ⟨z, hinv0⟩
 obtain ⟨hk, hi⟩ : (z ≤ n) ∧ (stK a m z = -1) := hinv0
 refine uL (l := [(0, qK (kL a) n), (1, .e (.c (.fn 130 [(0, 0)]))), (7, uV n), (8, uV z)]) (g := [(0, some (63, (b8 k r rn m c s sn)))]) (nx := 1) rfl rfl rfl ?_
 by_cases hx1 : (((z : Nat) : Int) < ((n : Nat) : Int))
 ·refine kK [.b true] (((z : Int) < (n : Int))) [(0, qK (kL a) n), (1, .e (.c (.fn 130 [(0, 0)]))), (7, uV n), (8, uV z), (9, bV true)] [(0, some (63, (b8 k r rn m c s sn)))] 1 zo ?_
  refine AW.seq ?_
  refine vR ?_
  refine AW.seq ?_
  refine AW.block ?_
  refine kT [.no, .no] True [(0, qK (kL a) n), (1, .e (.c (.fn 130 [(0, 0)]))), (5, uV z), (7, uV n), (8, uV z)] trivial ?_
  rcases kb3 (nhB m (ka1 a z ([] : List Int))) with hx3 | hx3
  ·have hx4 : ((ka0 (ka1 a z ([] : List Int))) ≤ 1000000) := MsW.at (qJ : MsW a) _
   refine kT [.no, .no, .no, .n z, .d (dl (ka1 a z ([] : List Int)) (ka0 (ka1 a z ([] : List Int)))), .call [0] (bV true) [(0, some (63, (b8 k r rn m c s sn)))] 1 [] none] ((kS (z : Int)) ∧ (z < n) ∧ ((ka3 z (kL a))[0]? = some (dl (ka1 a z ([] : List Int)) (ka0 (ka1 a z ([] : List Int))))) ∧ (Fun 130 [.c (.d (dl (ka1 a z ([] : List Int)) (ka0 (ka1 a z ([] : List Int))))), .c (.ptr 0 0)] (kH [(0, some (63, (b8 k r rn m c s sn)))]) 1 (bV true) (kH [(0, some (63, (b8 k r rn m c s sn)))]) 1)) [(0, qK (kL a) n), (1, .e (.c (.fn 130 [(0, 0)]))), (5, uV z), (7, uV n), (8, uV z), (16, bV true)] ⟨rfl, zo, (bM _ _ bI), (by have h0 := (u5d (ka1 a z ([] : List Int)) (ka0 (ka1 a z ([] : List Int))) k r rn m c s sn rfl kO zo zo (qJ : MsW m)); rw [hx3] at h0; exact h0)⟩ ?_
   refine zt ?_
   refine kT [.no, .no] True [(4, uV z)] trivial ?_
   refine AW.ret ?_
   exact kB (.inr rfl) [] (P := (((stK a m n) : Int) = (z : Int)) ∧ (kN [iD k, dl r rn, D.sl (kL m) c, dl s sn])) zk ⟨(by first | rfl | exact u3j hi (by assumption) zo | (rw [show n = z by omega]; exact hi) | omega), rfl⟩
  ·have hx5 : ((ka0 (ka1 a z ([] : List Int))) ≤ 1000000) := MsW.at (qJ : MsW a) _
   refine kT [.no, .no, .no, .n z, .d (dl (ka1 a z ([] : List Int)) (ka0 (ka1 a z ([] : List Int)))), .call [0] (bV false) [(0, some (63, (b8 k r rn m c s sn)))] 1 [] none] ((kS (z : Int)) ∧ (z < n) ∧ ((ka3 z (kL a))[0]? = some (dl (ka1 a z ([] : List Int)) (ka0 (ka1 a z ([] : List Int))))) ∧ (Fun 130 [.c (.d (dl (ka1 a z ([] : List Int)) (ka0 (ka1 a z ([] : List Int))))), .c (.ptr 0 0)] (kH [(0, some (63, (b8 k r rn m c s sn)))]) 1 (bV false) (kH [(0, some (63, (b8 k r rn m c s sn)))]) 1)) [(0, qK (kL a) n), (1, .e (.c (.fn 130 [(0, 0)]))), (5, uV z), (7, uV n), (8, uV z), (16, bV false)] ⟨rfl, zo, (bM _ _ bI), (by have h0 := (u5d (ka1 a z ([] : List Int)) (ka0 (ka1 a z ([] : List Int))) k r rn m c s sn rfl kO zo zo (qJ : MsW m)); rw [hx3] at h0; exact h0)⟩ ?_
   refine yA ?_
   refine yT [.w, .no] (yQ ((z : Int) + 1)) [(0, qK (kL a) n), (1, .e (.c (.fn 130 [(0, 0)]))), (7, uV n), (8, iV (↑z + 1))] ⟨by omega, by omega⟩ ?_
   exact qE ⟨((z + 1) : Nat), ⟨yH, (u9b hi (by assumption))⟩⟩ [] (P := (kN (kL a)) ∧ (kJ n) ∧ (kS (n : Int)) ∧ (c7 z) ∧ (kN [iD k, dl r rn, D.sl (kL m) c, dl s sn])) zk ⟨rfl, rfl, rfl, bH, rfl⟩ (show n - (z + 1) < n - z from vZ)
 ·refine kK [.b false] (¬ ((z : Int) < (n : Int))) [(0, qK (kL a) n), (1, .e (.c (.fn 130 [(0, 0)]))), (7, uV n), (8, uV z), (9, bV false)] [(0, some (63, (b8 k r rn m c s sn)))] 1 zo ?_
  refine AW.seq ?_
  refine zf ?_
  refine AW.exit ?_
  refine kK [.no] True [(4, iV (-1))] [(0, some (63, (b8 k r rn m c s sn)))] 1 trivial ?_
  refine AW.ret ?_
  exact kB (.inr rfl) [] (P := (((stK a m n) : Int) = (-1)) ∧ (kN [iD k, dl r rn, D.sl (kL m) c, dl s sn])) zk ⟨(by first | rfl | exact u3j hi (by assumption) zo | (rw [show n = z by omega]; exact hi) | omega), rfl⟩
theorem u0i (a : List (List Int)) (n : Nat) (k : Int) (r : List Int) (rn : Nat) (m : List (List Int)) (c : Nat) (s : List Int) (sn : Nat) (hn : ka0 a = n) (h1 : n ≤ 1000000) (hA : MsW a) (hc : ka0 m = c) (h3 : c ≤ 1000000) (hW : MsW m) : Fun 132 [.c (.d (D.sl (kL a) n)), .c (.fn 130 [(0, 0)])] (kH [(0, some (63, .ds [iD k, D.sl (dI .i64 r) rn, D.sl (kL m) c, D.sl (dI .i64 s) sn]))]) 1 (yM (D.lit (.bool (sgB a m)))) (kH [(0, some (63, .ds [iD k, D.sl (dI .i64 r) rn, D.sl (kL m) c, D.sl (dI .i64 s) sn]))]) 1 := by
 refine Fun.mk (n := 9) Tryz.func132 rfl rfl (ka4 rfl) ?_
 intro cx hcx
 refine kK [.no] True [(0, qK (kL a) n), (1, .e (.c (.fn 130 [(0, 0)])))] [(0, some (63, .ds [iD k, dl r rn, D.sl (kL m) c, dl s sn]))] 1 trivial ?_
 by_cases hx1 : ((0 : Int) ≤ (stK a m n))
 ·refine kT [.no, .no, .call [0] (iV (stK a m n)) [(0, some (63, .ds [iD k, dl r rn, D.sl (kL m) c, dl s sn]))] 1 [] none, .b true, .no] ((_) ∧ (((0 : Int) ≤ (stK a m n)))) [(4, bV true)] ⟨(u5c a n k r rn m c s sn zo zo (qJ : MsW a) zo zo (qJ : MsW m)), zo⟩ ?_
  refine AW.ret ?_
  exact kB (.inr rfl) [] (P := ((sgB a m) = true) ∧ (kN [iD k, dl r rn, D.sl (kL m) c, dl s sn])) zk ⟨(by first | exact u9i hn zo | exact u9j hn zo), rfl⟩
 ·refine kT [.no, .no, .call [0] (iV (stK a m n)) [(0, some (63, .ds [iD k, dl r rn, D.sl (kL m) c, dl s sn]))] 1 [] none, .b false, .no] ((_) ∧ (¬ ((0 : Int) ≤ (stK a m n)))) [(4, bV false)] ⟨(u5c a n k r rn m c s sn zo zo (qJ : MsW a) zo zo (qJ : MsW m)), zo⟩ ?_
  refine AW.ret ?_
  exact kB (.inr rfl) [] (P := ((sgB a m) = false) ∧ (kN [iD k, dl r rn, D.sl (kL m) c, dl s sn])) zk ⟨(by first | exact u9i hn zo | exact u9j hn zo), rfl⟩
theorem m5 {p : Prop} (h : p := by first | exact v3o (by omega) (by assumption) (by assumption) (by assumption) | exact v3s (by omega) | exact v3q (by assumption) | exact v3r (by assumption) | exact v3p (by assumption)) : p := h
abbrev dP (k2 : Int) (r2 : List Int) (rn2 : Nat) (m2 : List (List Int)) (c2 : Nat) (s2 : List Int) (sn2 : Nat) : BC := .ds [iD k2, D.sl (dI .i64 r2) rn2, D.sl (kL m2) c2, D.sl (dI .i64 s2) sn2]
theorem k50 (k : Int) (r : List Int) (rn : Nat) (m : List (List Int)) (c : Nat) (s : List Int) (sn : Nat) (k2 : Int) (r2 : List Int) (rn2 : Nat) (m2 : List (List Int)) (c2 : Nat) (s2 : List Int) (sn2 : Nat) (hr : ka0 r = rn * 2) (hs : ka0 s = sn * 2) (hc : ka0 m = c) (h1 : rn ≤ 1000000) (h2 : sn ≤ 1000000) (h3 : c ≤ 1000000) (hW : MsW m) (hr2 : ka0 r2 = rn2 * 2) (hs2 : ka0 s2 = sn2 * 2) (hc2 : ka0 m2 = c2) (h12 : rn2 ≤ 1000000) (h22 : sn2 ≤ 1000000) (h32 : c2 ≤ 1000000) (hW2 : MsW m2) : Fun 93 [.agg [iC k, .d (D.sl (dI .i64 r) rn), .d (D.sl (kL m) c), .d (D.sl (dI .i64 s) sn)], .agg [iC k2, .d (D.sl (dI .i64 r2) rn2), .d (D.sl (kL m2) c2), .d (D.sl (dI .i64 s2) sn2)]] (kH []) 0 (yM (D.lit (.bool (o4 k r rn m s sn k2 r2 rn2 m2 s2 sn2)))) (kH []) 0 := by
 refine Fun.mk (n := 34) Tryz.func93 rfl rfl (ka4 rfl) ?_
 intro cx hcx
 refine kK [.no, .no, .no] True [(2, rV 0 0), (3, rV 1 0)] [(0, some (63, .ds [iD k, dl r rn, D.sl (kL m) c, dl s sn])), (1, some (63, (dP k2 r2 rn2 m2 c2 s2 sn2)))] 2 trivial ?_
 refine kT [.no, .no] True [(2, rV 0 0), (3, rV 1 0), (5, .e (.c (.fn 130 [(1, 0)])))] trivial ?_
 by_cases hx1 : ((pB k k2) = 0)
 ·rcases kb3 (x4 (kC r rn) (kC r2 rn2)) with hx2 | hx2
  ·rcases kb3 (sgB m m2) with hx3 | hx3
   ·refine kK (qN 4 (.i (pB k k2) :: .b true :: qN 5 (.call [] (bV true) [] 0 [] none :: qN 5 (.call [1] (bV true) [(0, some (63, (dP k2 r2 rn2 m2 c2 s2 sn2)))] 1 [] none :: qN 5 [])))) ((qM .andNot .i64 k k2 = (pB k k2)) ∧ (((pB k k2) = 0)) ∧ (Fun 131 [.agg [.d (dl r rn)], .agg [.d (dl r2 rn2)]] (kH []) 0 (bV true) (kH []) 0) ∧ (Fun 132 [.c (.d (D.sl (kL m) c)), .c (.fn 130 [(0, 0)])] (kH [(0, some (63, (dP k2 r2 rn2 m2 c2 s2 sn2)))]) 1 (bV true) (kH [(0, some (63, (dP k2 r2 rn2 m2 c2 s2 sn2)))]) 1)) [(4, bV false)] [] 2 ⟨rfl, zo, (by have h0 := (eH r r2 rn rn2 zo zo zo zo); rw [hx2] at h0; exact h0), (by have h0 := (u0i m c k2 r2 rn2 m2 c2 s2 sn2 zo zo (qJ : MsW m) zo zo (qJ : MsW m2)); rw [hx3] at h0; exact h0)⟩ ?_
    refine AW.ret ?_
    exact kB (.inr rfl) [] (P := ((o4 k r rn m s sn k2 r2 rn2 m2 s2 sn2) = false)) zk m5
   ·rcases kb3 (x4 (kC s sn) (kC s2 sn2)) with hx4 | hx4
    ·refine kK (qN 4 (.i (pB k k2) :: .b true :: qN 5 (.call [] (bV true) [] 0 [] none :: qN 5 (.call [1] (bV false) [(0, some (63, (dP k2 r2 rn2 m2 c2 s2 sn2)))] 1 [] none :: qN 7 [.call [] (bV true) [] 0 [] none, .no, .no])))) ((qM .andNot .i64 k k2 = (pB k k2)) ∧ (((pB k k2) = 0)) ∧ (Fun 131 [.agg [.d (dl r rn)], .agg [.d (dl r2 rn2)]] (kH []) 0 (bV true) (kH []) 0) ∧ (Fun 132 [.c (.d (D.sl (kL m) c)), .c (.fn 130 [(0, 0)])] (kH [(0, some (63, (dP k2 r2 rn2 m2 c2 s2 sn2)))]) 1 (bV false) (kH [(0, some (63, (dP k2 r2 rn2 m2 c2 s2 sn2)))]) 1) ∧ (Fun 131 [.agg [.d (dl s sn)], .agg [.d (dl s2 sn2)]] (kH []) 0 (bV true) (kH []) 0)) [(4, bV true)] [] 2 ⟨rfl, zo, (by have h0 := (eH r r2 rn rn2 zo zo zo zo); rw [hx2] at h0; exact h0), (by have h0 := (u0i m c k2 r2 rn2 m2 c2 s2 sn2 zo zo (qJ : MsW m) zo zo (qJ : MsW m2)); rw [hx3] at h0; exact h0), (by have h0 := (eH s s2 sn sn2 zo zo zo zo); rw [hx4] at h0; exact h0)⟩ ?_
     refine AW.ret ?_
     exact kB (.inr rfl) [] (P := ((o4 k r rn m s sn k2 r2 rn2 m2 s2 sn2) = true)) zk m5
    ·refine kK (qN 4 (.i (pB k k2) :: .b true :: qN 5 (.call [] (bV true) [] 0 [] none :: qN 5 (.call [1] (bV false) [(0, some (63, (dP k2 r2 rn2 m2 c2 s2 sn2)))] 1 [] none :: qN 7 [.call [] (bV false) [] 0 [] none, .no, .no])))) ((qM .andNot .i64 k k2 = (pB k k2)) ∧ (((pB k k2) = 0)) ∧ (Fun 131 [.agg [.d (dl r rn)], .agg [.d (dl r2 rn2)]] (kH []) 0 (bV true) (kH []) 0) ∧ (Fun 132 [.c (.d (D.sl (kL m) c)), .c (.fn 130 [(0, 0)])] (kH [(0, some (63, (dP k2 r2 rn2 m2 c2 s2 sn2)))]) 1 (bV false) (kH [(0, some (63, (dP k2 r2 rn2 m2 c2 s2 sn2)))]) 1) ∧ (Fun 131 [.agg [.d (dl s sn)], .agg [.d (dl s2 sn2)]] (kH []) 0 (bV false) (kH []) 0)) [(4, bV false)] [] 2 ⟨rfl, zo, (by have h0 := (eH r r2 rn rn2 zo zo zo zo); rw [hx2] at h0; exact h0), (by have h0 := (u0i m c k2 r2 rn2 m2 c2 s2 sn2 zo zo (qJ : MsW m) zo zo (qJ : MsW m2)); rw [hx3] at h0; exact h0), (by have h0 := (eH s s2 sn sn2 zo zo zo zo); rw [hx4] at h0; exact h0)⟩ ?_
     refine AW.ret ?_
     exact kB (.inr rfl) [] (P := ((o4 k r rn m s sn k2 r2 rn2 m2 s2 sn2) = false)) zk m5
  ·refine kK (qN 4 (.i (pB k k2) :: .b true :: qN 5 (.call [] (bV false) [] 0 [] none :: qN 6 []))) ((qM .andNot .i64 k k2 = (pB k k2)) ∧ (((pB k k2) = 0)) ∧ (Fun 131 [.agg [.d (dl r rn)], .agg [.d (dl r2 rn2)]] (kH []) 0 (bV false) (kH []) 0)) [(4, bV false)] [] 2 ⟨rfl, zo, (by have h0 := (eH r r2 rn rn2 zo zo zo zo); rw [hx2] at h0; exact h0)⟩ ?_
   refine AW.ret ?_
   exact kB (.inr rfl) [] (P := ((o4 k r rn m s sn k2 r2 rn2 m2 s2 sn2) = false)) zk m5
 ·refine kK (qN 4 (.i (pB k k2) :: .b false :: qN 7 [])) ((qM .andNot .i64 k k2 = (pB k k2)) ∧ (¬ ((pB k k2) = 0))) [(4, bV false)] [] 2 ⟨rfl, zo⟩ ?_
  refine AW.ret ?_
  exact kB (.inr rfl) [] (P := ((o4 k r rn m s sn k2 r2 rn2 m2 s2 sn2) = false)) zk m5
theorem k04 {p : Prop} (h : p := by first | exact v44 (by omega) (by assumption) (by omega) | exact v43 (by omega) (by assumption) (by assumption)) : p := h
theorem u0g (xs : List Bx) (n i : Nat) (hn : ka0 xs = n) (h1 : n ≤ 1000000) (hW : BsW xs) (hi : i < n) : Fun 61 [.c (.d (D.sl (kV xs) n)), iE ((i : Nat) : Int)] (kH []) 0 (yM (D.lit (.bool (goB xs i)))) (kH []) 0 := by
 refine Fun.mk (n := 40) Tryz.func61 rfl rfl (ka4 rfl) ?_
 intro cx hcx
 refine kK [.no] True [(0, .e (qC xs n)), (1, uV i)] [] 0 trivial ?_
 refine AW.seq ?_
 refine kT [.no, .no, .no] True [(0, .e (qC xs n)), (1, uV i), (7, .e (qC xs n)), (8, uV n), (9, iV 0)] trivial ?_
 refine AW.block ?_
 refine qH 0 hcx (fun (x : {x : Nat // match x with | z => (z ≤ n) ∧ (∀ j, j < z → oO xs i j = false)}) => match x with | ⟨z, _⟩ => (⟨[(0, .e (qC xs n)), (1, uV i), (7, .e (qC xs n)), (8, uV n), (9, uV z)], [], 0⟩ : ES)) (fun x => match x with | ⟨z, _⟩ => n - z) ⟨(0 : Nat), ⟨yH, (fun j hj => absurd hj (Nat.not_lt_zero j))⟩⟩ [] (P := (kN (kV xs)) ∧ (kJ n) ∧ (kS (i : Int)) ∧ (kN (kV xs)) ∧ (kJ n) ∧ (kS (n : Int)) ∧ (kS 0)) zk ⟨rfl, rfl, rfl, rfl, rfl, rfl, rfl⟩ ?_
 rintro ⟨z, hinv0⟩
 obtain ⟨hz, ha⟩ : (z ≤ n) ∧ (∀ j, j < z → oO xs i j = false) := hinv0
 refine uL (l := [(0, .e (qC xs n)), (1, uV i), (7, .e (qC xs n)), (8, uV n), (9, uV z)]) (g := []) (nx := 0) rfl rfl rfl ?_
 by_cases hx1 : (((z : Nat) : Int) < ((n : Nat) : Int))
 ·refine kK [.b true] (((z : Int) < (n : Int))) [(0, .e (qC xs n)), (1, uV i), (7, .e (qC xs n)), (8, uV n), (9, uV z), (10, bV true)] [] 0 zo ?_
  refine AW.seq ?_
  refine vR ?_
  refine AW.seq ?_
  refine AW.block ?_
  obtain ⟨hx2, hx3, hx4, hx5, hx6⟩ := BsW.at (qJ : BsW xs) (z)
  refine kK [.no, .n z, .ds (y3 xs z), .no, .no, .no] ((kS (z : Int)) ∧ (z < n) ∧ (ka5 4 (ka3 (z * 4) (kV xs)) = (y3 xs z)) ∧ (((y3 xs z) : List D).length = 4)) [(0, .e (qC xs n)), (1, uV i), (5, uV z), (6, rV 0 0), (7, .e (qC xs n)), (8, uV n), (9, uV z)] [(0, some (63, .ds (y3 xs z)))] 1 ⟨rfl, zo, (vQ bI), rfl⟩ ?_
  by_cases hx7 : (((z : Nat) : Int) ≠ ((i : Nat) : Int))
  ·rcases kb3 (o4 (kU xs i) (qG xs i) (qA xs i) (kX xs i) (qF xs i) (k9 xs i) (kU xs z) (qG xs z) (qA xs z) (kX xs z) (qF xs z) (k9 xs z)) with hx13 | hx13
   ·by_cases hx19 : (((z : Nat) : Int) < ((i : Nat) : Int))
    ·obtain ⟨hx20, hx21, hx22, hx23, hx24⟩ := BsW.at (qJ : BsW xs) (i)
     refine kK [.no, .no, .b true, .no, .no, .no, .n i, .ds (y3 xs i), .no, .call [] (bV true) [] 0 [] none, .no, .no, .no, .no, .b true, .no, .no, .no] ((((z : Int) ≠ (i : Int))) ∧ (kS (i : Int)) ∧ (i < n) ∧ (ka5 4 (ka3 (i * 4) (kV xs)) = (y3 xs i)) ∧ (((y3 xs i) : List D).length = 4) ∧ (Fun 93 [(oW xs i), (oW xs z)] (kH []) 0 (bV true) (kH []) 0) ∧ (((z : Int) < (i : Int)))) [(0, .e (qC xs n)), (1, uV i), (7, .e (qC xs n)), (8, uV n), (9, uV z), (38, bV true)] [] 1 ⟨zo, rfl, zo, (vQ bI), rfl, (by have h0 := (k50 (kU xs i) (qG xs i) (qA xs i) (kX xs i) (ka0 (kX xs i)) (qF xs i) (k9 xs i) (kU xs z) (qG xs z) (qA xs z) (kX xs z) (ka0 (kX xs z)) (qF xs z) (k9 xs z) kO kO rfl kO kO kO (BsW.ms (qJ : BsW xs) _) kO kO rfl kO kO kO (BsW.ms (qJ : BsW xs) _)); rw [hx13] at h0; exact h0), zo⟩ ?_
     refine zt ?_
     refine kT [.no] True [(4, bV true)] trivial ?_
     refine AW.ret ?_
     exact kB (.inr rfl) [] (P := ((goB xs i) = true)) zk (by first | exact u79 (j := z) zo k04 | exact u1v (fun j hj => ha j zo))
    ·rcases kb3 (o4 (kU xs z) (qG xs z) (qA xs z) (kX xs z) (qF xs z) (k9 xs z) (kU xs i) (qG xs i) (qA xs i) (kX xs i) (qF xs i) (k9 xs i)) with hx30 | hx30
     ·obtain ⟨hx31, hx32, hx33, hx34, hx35⟩ := BsW.at (qJ : BsW xs) (i)
      refine kK (.no :: .no :: .b true :: .no :: .no :: .no :: .n i :: .ds (y3 xs i) :: .no :: .call [] (bV true) [] 0 [] none :: qN 4 (.b false :: qN 4 [.n i, .ds (y3 xs i), .call [] (bV true) [] 0 [] none, .no, .no, .no])) ((((z : Int) ≠ (i : Int))) ∧ (kS (i : Int)) ∧ (i < n) ∧ (ka5 4 (ka3 (i * 4) (kV xs)) = (y3 xs i)) ∧ (((y3 xs i) : List D).length = 4) ∧ (Fun 93 [(oW xs i), (oW xs z)] (kH []) 0 (bV true) (kH []) 0) ∧ (¬ ((z : Int) < (i : Int))) ∧ (kS (i : Int)) ∧ (i < n) ∧ (ka5 4 (ka3 (i * 4) (kV xs)) = (y3 xs i)) ∧ (((y3 xs i) : List D).length = 4) ∧ (Fun 93 [(oW xs z), (oW xs i)] (kH []) 0 (bV true) (kH []) 0)) [(0, .e (qC xs n)), (1, uV i), (7, .e (qC xs n)), (8, uV n), (9, uV z), (38, bV false)] [] 1 ⟨zo, rfl, zo, (vQ bI), rfl, (by have h0 := (k50 (kU xs i) (qG xs i) (qA xs i) (kX xs i) (ka0 (kX xs i)) (qF xs i) (k9 xs i) (kU xs z) (qG xs z) (qA xs z) (kX xs z) (ka0 (kX xs z)) (qF xs z) (k9 xs z) kO kO rfl kO kO kO (BsW.ms (qJ : BsW xs) _) kO kO rfl kO kO kO (BsW.ms (qJ : BsW xs) _)); rw [hx13] at h0; exact h0), zo, rfl, zo, (vQ bI), rfl, (by have h0 := (k50 (kU xs z) (qG xs z) (qA xs z) (kX xs z) (ka0 (kX xs z)) (qF xs z) (k9 xs z) (kU xs i) (qG xs i) (qA xs i) (kX xs i) (ka0 (kX xs i)) (qF xs i) (k9 xs i) kO kO rfl kO kO kO (BsW.ms (qJ : BsW xs) _) kO kO rfl kO kO kO (BsW.ms (qJ : BsW xs) _)); rw [hx30] at h0; exact h0)⟩ ?_
      refine yA ?_
      refine yT [.w, .no] (yQ ((z : Int) + 1)) [(0, .e (qC xs n)), (1, uV i), (7, .e (qC xs n)), (8, uV n), (9, iV (↑z + 1))] ⟨by omega, by omega⟩ ?_
      exact qE ⟨((z + 1) : Nat), ⟨yH, (fun j hj => (Nat.lt_succ_iff_lt_or_eq.1 hj).elim (ha j) (fun e9 => by subst e9; first | exact k7o zo | exact u7a (by assumption) | exact u7b (by assumption) zo))⟩⟩ [] (P := (kN (kV xs)) ∧ (kJ n) ∧ (kS (i : Int)) ∧ (kN (kV xs)) ∧ (kJ n) ∧ (kS (n : Int)) ∧ (c7 z)) zk ⟨rfl, rfl, rfl, rfl, rfl, rfl, bH⟩ (show n - (z + 1) < n - z from vZ)
     ·obtain ⟨hx36, hx37, hx38, hx39, hx40⟩ := BsW.at (qJ : BsW xs) (i)
      refine kK (.no :: .no :: .b true :: .no :: .no :: .no :: .n i :: .ds (y3 xs i) :: .no :: .call [] (bV true) [] 0 [] none :: qN 4 (.b false :: qN 4 [.n i, .ds (y3 xs i), .call [] (bV false) [] 0 [] none, .no, .no, .no])) ((((z : Int) ≠ (i : Int))) ∧ (kS (i : Int)) ∧ (i < n) ∧ (ka5 4 (ka3 (i * 4) (kV xs)) = (y3 xs i)) ∧ (((y3 xs i) : List D).length = 4) ∧ (Fun 93 [(oW xs i), (oW xs z)] (kH []) 0 (bV true) (kH []) 0) ∧ (¬ ((z : Int) < (i : Int))) ∧ (kS (i : Int)) ∧ (i < n) ∧ (ka5 4 (ka3 (i * 4) (kV xs)) = (y3 xs i)) ∧ (((y3 xs i) : List D).length = 4) ∧ (Fun 93 [(oW xs z), (oW xs i)] (kH []) 0 (bV false) (kH []) 0)) [(0, .e (qC xs n)), (1, uV i), (7, .e (qC xs n)), (8, uV n), (9, uV z), (38, bV true)] [] 1 ⟨zo, rfl, zo, (vQ bI), rfl, (by have h0 := (k50 (kU xs i) (qG xs i) (qA xs i) (kX xs i) (ka0 (kX xs i)) (qF xs i) (k9 xs i) (kU xs z) (qG xs z) (qA xs z) (kX xs z) (ka0 (kX xs z)) (qF xs z) (k9 xs z) kO kO rfl kO kO kO (BsW.ms (qJ : BsW xs) _) kO kO rfl kO kO kO (BsW.ms (qJ : BsW xs) _)); rw [hx13] at h0; exact h0), zo, rfl, zo, (vQ bI), rfl, (by have h0 := (k50 (kU xs z) (qG xs z) (qA xs z) (kX xs z) (ka0 (kX xs z)) (qF xs z) (k9 xs z) (kU xs i) (qG xs i) (qA xs i) (kX xs i) (ka0 (kX xs i)) (qF xs i) (k9 xs i) kO kO rfl kO kO kO (BsW.ms (qJ : BsW xs) _) kO kO rfl kO kO kO (BsW.ms (qJ : BsW xs) _)); rw [hx30] at h0; exact h0)⟩ ?_
      refine zt ?_
      refine kT [.no] True [(4, bV true)] trivial ?_
      refine AW.ret ?_
      exact kB (.inr rfl) [] (P := ((goB xs i) = true)) zk (by first | exact u79 (j := z) zo k04 | exact u1v (fun j hj => ha j zo))
   ·obtain ⟨hx41, hx42, hx43, hx44, hx45⟩ := BsW.at (qJ : BsW xs) (i)
    refine kK [.no, .no, .b true, .no, .no, .no, .n i, .ds (y3 xs i), .no, .call [] (bV false) [] 0 [] none, .no, .no, .no] ((((z : Int) ≠ (i : Int))) ∧ (kS (i : Int)) ∧ (i < n) ∧ (ka5 4 (ka3 (i * 4) (kV xs)) = (y3 xs i)) ∧ (((y3 xs i) : List D).length = 4) ∧ (Fun 93 [(oW xs i), (oW xs z)] (kH []) 0 (bV false) (kH []) 0)) [(0, .e (qC xs n)), (1, uV i), (7, .e (qC xs n)), (8, uV n), (9, uV z), (38, bV false)] [] 1 ⟨zo, rfl, zo, (vQ bI), rfl, (by have h0 := (k50 (kU xs i) (qG xs i) (qA xs i) (kX xs i) (ka0 (kX xs i)) (qF xs i) (k9 xs i) (kU xs z) (qG xs z) (qA xs z) (kX xs z) (ka0 (kX xs z)) (qF xs z) (k9 xs z) kO kO rfl kO kO kO (BsW.ms (qJ : BsW xs) _) kO kO rfl kO kO kO (BsW.ms (qJ : BsW xs) _)); rw [hx13] at h0; exact h0)⟩ ?_
    refine yA ?_
    refine yT [.w, .no] (yQ ((z : Int) + 1)) [(0, .e (qC xs n)), (1, uV i), (7, .e (qC xs n)), (8, uV n), (9, iV (↑z + 1))] ⟨by omega, by omega⟩ ?_
    exact qE ⟨((z + 1) : Nat), ⟨yH, (fun j hj => (Nat.lt_succ_iff_lt_or_eq.1 hj).elim (ha j) (fun e9 => by subst e9; first | exact k7o zo | exact u7a (by assumption) | exact u7b (by assumption) zo))⟩⟩ [] (P := (kN (kV xs)) ∧ (kJ n) ∧ (kS (i : Int)) ∧ (kN (kV xs)) ∧ (kJ n) ∧ (kS (n : Int)) ∧ (c7 z)) zk ⟨rfl, rfl, rfl, rfl, rfl, rfl, bH⟩ (show n - (z + 1) < n - z from vZ)
  ·refine kK (.no :: .no :: .b false :: qN 4 []) (¬ ((z : Int) ≠ (i : Int))) [(0, .e (qC xs n)), (1, uV i), (7, .e (qC xs n)), (8, uV n), (9, uV z), (38, bV false)] [] 1 zo ?_
   refine yA ?_
   refine yT [.w, .no] (yQ ((z : Int) + 1)) [(0, .e (qC xs n)), (1, uV i), (7, .e (qC xs n)), (8, uV n), (9, iV (↑z + 1))] ⟨by omega, by omega⟩ ?_
   exact qE ⟨((z + 1) : Nat), ⟨yH, (fun j hj => (Nat.lt_succ_iff_lt_or_eq.1 hj).elim (ha j) (fun e9 => by subst e9; first | exact k7o zo | exact u7a (by assumption) | exact u7b (by assumption) zo))⟩⟩ [] (P := (kN (kV xs)) ∧ (kJ n) ∧ (kS (i : Int)) ∧ (kN (kV xs)) ∧ (kJ n) ∧ (kS (n : Int)) ∧ (c7 z)) zk ⟨rfl, rfl, rfl, rfl, rfl, rfl, bH⟩ (show n - (z + 1) < n - z from vZ)
 ·refine kK [.b false] (¬ ((z : Int) < (n : Int))) [(0, .e (qC xs n)), (1, uV i), (7, .e (qC xs n)), (8, uV n), (9, uV z), (10, bV false)] [] 0 zo ?_
  refine AW.seq ?_
  refine zf ?_
  refine AW.exit ?_
  refine kK [.no] True [(4, bV false)] [] 0 trivial ?_
  refine AW.ret ?_
  exact kB (.inr rfl) [] (P := ((goB xs i) = false)) zk (by first | exact u79 (j := z) zo k04 | exact u1v (fun j hj => ha j zo))
theorem rR {p : Prop} (h : p := by rw [kc9, kb8 (by first | omega | (simp only [k8, kZ, qW, ka6, ka9, kb1, kb0, kb2, kb4, kb9, kc4, kc1, kc7] <;> omega))]) : p := h
theorem vS {p : Prop} (h : p := by first | omega | (simp only [k8, kZ, qW, ka6, ka9, kb1, kb0, kb2, kb4, kb9, kc4, kc1, kc7] <;> omega) | rfl) : p := h
theorem u0h (l : List Int) (n : Nat) (hl : ka0 l = n * 2) (hb : n ≤ 1000000) : Fun 94 [.agg [.d (D.sl (dI .i64 l) n)]] (kH []) 0 (.e (.agg [.d (D.sl (dI .i64 l) n)])) (kH []) 0 := by
 refine Fun.mk (n := 7) Tryz.func94 rfl rfl (ka4 rfl) ?_
 intro cx hcx
 refine kK [.no, .no] True [(1, rV 0 0), (2, rV 1 0)] [(0, some (60, .ds [dl l n])), (1, some (60, .ds [qQ]))] 2 trivial ?_
 refine kK [.no, .no, .call [] (oV 0 0 n 2) [(0, some (95, .ds (dI .i64 l)))] 1 [] none, .no, .no] _ [(2, rV 1 0)] [(1, some (60, .cs [.own 2 0 n 2 true])), (2, some (95, .ds (dI .i64 l)))] 3 (u36 l n zo zo) ?_
 refine AW.freeze 2 (l' := [(2, rV 1 0)]) (g' := [(1, some (60, .ds [dl l n]))]) rfl (FzS.cons rfl (.same _) FzS.nil) (FzG.to (bc := .cs [.own 2 0 n 2 true]) rfl (by rfl) (FzL.cons (@FzC.own 2 ((dI .i64 l) : List D) 0 n 2 true ((dI .i64 l) : List D) rR vS) FzL.nil) FzG.nil) ?_
 refine AW.ret ?_
 exact kB (.inr rfl) [] (P := (kN (dI .i64 l)) ∧ (kJ n)) zk ⟨rfl, rfl⟩
theorem u37 (m : List (List Int)) (c : Nat) (hc : ka0 m = c) (h3 : c ≤ 1000000) (hW : MsW m) : Fun 95 [.c (.d (D.sl (kL m) c)), .c (.fn 96 [])] (kH []) 0 (qK (kL m) c) (kH []) 0 := by
 refine Fun.mk (n := 22) Tryz.func95 rfl rfl (ka4 rfl) ?_
 intro cx hcx
 refine kK [.no] True [(0, qK (kL m) c), (1, .e (.c (.fn 96 [])))] [] 0 trivial ?_
 refine kT [.no] True [(0, qK (kL m) c), (1, .e (.c (.fn 96 []))), (5, nV)] trivial ?_
 refine AW.seq ?_
 refine kT [.no, .no, .no] True [(1, .e (.c (.fn 96 []))), (5, nV), (8, qK (kL m) c), (9, uV c), (10, iV 0)] trivial ?_
 refine AW.block ?_
 refine AW.adoptS 5 1 38 rfl ?_
 refine qH 0 hcx (fun (x : {x : Nat // match x with | z => (z ≤ c)}) => match x with | ⟨z, _⟩ => (⟨[(1, .e (.c (.fn 96 []))), (5, oV 1 0 z 1), (8, qK (kL m) c), (9, uV c), (10, uV z)], [(1, some (38, .ds (kL (ka5 z m))))], 2⟩ : ES)) (fun x => match x with | ⟨z, _⟩ => c - z) ⟨(0 : Nat), (show ((0 : Nat) ≤ c) from yH)⟩ [(1, 0)] (P := (kJ 0) ∧ (kJ 0) ∧ (kN (kL m)) ∧ (kJ c) ∧ (kS (c : Int)) ∧ (kS 0) ∧ (((kL (ka5 0 m)) : List D) = ([] : List D))) zk ⟨rfl, rfl, rfl, rfl, rfl, rfl, (by first | rfl | with_reducible assumption | (exact (congrArg kL (List.take_succ_eq_append_getD zo))) | (rw [k2n (by omega)]))⟩ ?_
 rintro ⟨z, hinv0⟩
 have hz : (z ≤ c) := hinv0
 refine uL (l := [(1, .e (.c (.fn 96 []))), (5, oV 1 0 z 1), (8, qK (kL m) c), (9, uV c), (10, uV z)]) (g := [(1, some (38, .ds (kL (ka5 z m))))]) (nx := 2) rfl rfl rfl ?_
 by_cases hx1 : (((z : Nat) : Int) < ((c : Nat) : Int))
 ·refine kK [.b true] (((z : Int) < (c : Int))) [(1, .e (.c (.fn 96 []))), (5, oV 1 0 z 1), (8, qK (kL m) c), (9, uV c), (10, uV z), (11, bV true)] [(1, some (38, .ds (kL (ka5 z m))))] 2 zo ?_
  refine AW.seq ?_
  refine vR ?_
  refine AW.seq ?_
  refine AW.block ?_
  have hx2 : ((ka0 (ka1 m z ([] : List Int))) ≤ 1000000) := MsW.at (qJ : MsW m) _
  refine kT [.n z, .d (dl (ka1 m z ([] : List Int)) (ka0 (ka1 m z ([] : List Int)))), .no] ((kS (z : Int)) ∧ (z < c) ∧ ((ka3 z (kL m))[0]? = some (dl (ka1 m z ([] : List Int)) (ka0 (ka1 m z ([] : List Int)))))) [(1, .e (.c (.fn 96 []))), (5, oV 1 0 z 1), (7, sV .i64 (ka1 m z ([] : List Int)) (ka0 (ka1 m z ([] : List Int)))), (8, qK (kL m) c), (9, uV c), (10, uV z)] ⟨rfl, zo, (bM _ _ bI)⟩ ?_
  refine aG [.no, .no, .no, (.fz (.call [] (oV 0 0 (ka0 (ka1 m z ([] : List Int))) 1) [(0, some (3, .ds (dI .i64 (ka1 m z ([] : List Int)))))] 1 [] none)), .no, .ap none (z + 1) (kL ((ka5 z m) ++ ([(ka1 m z ([] : List Int))] : List (List Int)))), .no] ((_) ∧ (((dI .i64 (ka1 m z ([] : List Int))) : List D).length = (ka0 (ka1 m z ([] : List Int))) * 1) ∧ ([dl (ka1 m z ([] : List Int)) (ka0 (ka1 m z ([] : List Int)))].length = 1 * 1) ∧ (((kL (ka5 z m)) : List D).length = z * 1) ∧ ((z + 1) * 24 ≤ 140737488355328) ∧ (z + 1 = (z + 1)) ∧ (((kL (ka5 z m)) : List D) ++ [dl (ka1 m z ([] : List Int)) (ka0 (ka1 m z ([] : List Int)))] = (kL ((ka5 z m) ++ ([(ka1 m z ([] : List Int))] : List (List Int)))))) [(1, .e (.c (.fn 96 []))), (5, oV 4 0 (z + 1) 1), (8, qK (kL m) c), (9, uV c), (10, uV z)] [(4, some (38, .ds (kL ((ka5 z m) ++ ([(ka1 m z ([] : List Int))] : List (List Int))))))] 5 ⟨(dM (ka1 m z ([] : List Int)) (ka0 (ka1 m z ([] : List Int))) rfl kO), vS, vS, vS, zo, zo, (sW (ka5 z m) (ka1 m z ([] : List Int)) (ka0 (ka1 m z ([] : List Int))) (by first | rfl | omega))⟩ ?_
  refine yT [.w, .no] (yQ ((z : Int) + 1)) [(1, .e (.c (.fn 96 []))), (5, oV 4 0 (z + 1) 1), (8, qK (kL m) c), (9, uV c), (10, iV (↑z + 1))] ⟨by omega, by omega⟩ ?_
  exact qE ⟨((z + 1) : Nat), (show ((z + 1) ≤ c) from yH)⟩ [(1, 4)] (P := (kJ 0) ∧ (kJ (z + 1)) ∧ (kN (kL m)) ∧ (kJ c) ∧ (kS (c : Int)) ∧ (c7 z) ∧ (((kL (ka5 (z + 1) m)) : List D) = (kL ((ka5 z m) ++ ([(ka1 m z ([] : List Int))] : List (List Int)))))) zk ⟨rfl, rfl, rfl, rfl, rfl, bH, (by first | rfl | with_reducible assumption | (exact (congrArg kL (List.take_succ_eq_append_getD zo))) | (rw [k2n (by omega)]))⟩ (show c - (z + 1) < c - z from vZ)
 ·refine kK [.b false] (¬ ((z : Int) < (c : Int))) [(1, .e (.c (.fn 96 []))), (5, oV 1 0 z 1), (8, qK (kL m) c), (9, uV c), (10, uV z), (11, bV false)] [(1, some (38, .ds (kL (ka5 z m))))] 2 zo ?_
  refine AW.seq ?_
  refine zf ?_
  refine AW.exit ?_
  refine kK [.no, .no] True [(4, oV 1 0 z 1)] [(1, some (38, .ds (kL (ka5 z m))))] 2 trivial ?_
  refine AW.freeze 1 (l' := [(4, qK (kL (ka5 z m)) z)]) (g' := []) rfl (FzS.cons rfl (.e (.c (@FzC.own 1 ((kL (ka5 z m)) : List D) 0 z 1 true ((kL (ka5 z m)) : List D) (by rw [kc9, kc7, kb8 (by first | omega | (simp only [k8, kZ, qW, ka6, ka9, kb1, kb0, kb2, kb4, kb9, kc4, kc1, kc7] <;> omega))]) vS))) FzS.nil) FzG.nil ?_
  have hz1 : ka5 z m = m := kb8 (by omega)
  refine AW.ret ?_
  exact kB (.inr rfl) [] (P := (((kL m) : List D) = (kL (ka5 z m))) ∧ ((c : Nat) = z)) zk ⟨(by first | rfl | (rw [hz1]; done) | (rw [hz1]; rfl)), (by first | rfl | omega)⟩
abbrev u5x : BC := .ds [iD 0, D.lit (.slice none 0 0), D.lit (.slice none 0 0), D.lit (.slice none 0 0)]
theorem u8j (k : Int) (r : List Int) (rn : Nat) (m : List (List Int)) (c : Nat) (s : List Int) (sn : Nat) (hr : ka0 r = rn * 2) (hs : ka0 s = sn * 2) (hc : ka0 m = c) (h1 : rn ≤ 1000000) (h2 : sn ≤ 1000000) (h3 : c ≤ 1000000) (hW : MsW m) : Fun 62 [.agg [iC k, .d (D.sl (dI .i64 r) rn), .d (D.sl (kL m) c), .d (D.sl (dI .i64 s) sn)]] (kH []) 0 (.e (.agg [iC k, .d (D.sl (dI .i64 r) rn), .d (D.sl (kL m) c), .d (D.sl (dI .i64 s) sn)])) (kH []) 0 := by
 refine Fun.mk (n := 16) Tryz.func62 rfl rfl (ka4 rfl) ?_
 intro cx hcx
 refine kK [.no, .no] True [(1, rV 0 0), (2, rV 1 0)] [(0, some (63, .ds [iD k, dl r rn, D.sl (kL m) c, dl s sn])), (1, some (63, u5x))] 2 trivial ?_
 refine kT [.no, .no, .call [] (.e (.agg [.d (dl r rn)])) [] 0 [] none, .no, .no] _ [(1, rV 0 0), (2, rV 1 0)] (u0h r rn zo zo) ?_
 refine kT [.no, .no, .call [] (qK (kL m) c) [] 0 [] none, .no, .no] _ [(1, rV 0 0), (2, rV 1 0)] (u37 m c zo zo (qJ : MsW m)) ?_
 refine kT [.no, .no, .call [] (.e (.agg [.d (dl s sn)])) [] 0 [] none, .no, .no] _ [(1, rV 0 0), (2, rV 1 0)] (u0h s sn zo zo) ?_
 refine kK [.no, .no] True [(2, rV 1 0)] [(1, some (63, .ds [iD k, dl r rn, D.sl (kL m) c, dl s sn]))] 2 trivial ?_
 refine AW.ret ?_
 exact kB (.inr rfl) [] (P := (kS k) ∧ (kN (dI .i64 r)) ∧ (kJ rn) ∧ (kN (kL m)) ∧ (kJ c) ∧ (kN (dI .i64 s)) ∧ (kJ sn)) zk ⟨rfl, rfl, rfl, rfl, rfl, rfl, rfl⟩
abbrev u0y (xs : List Bx) (i : Nat) : BC := .ds [iD (kU xs i), D.sl (dI .i64 (qG xs i)) (qA xs i), D.sl (kL (kX xs i)) (ka0 (kX xs i)), D.sl (dI .i64 (qF xs i)) (k9 xs i)]
theorem u0f (xs : List Bx) (n : Nat) (hn : ka0 xs = n) (h1 : n ≤ 1000000) (hW : BsW xs) : Fun 32 [.c (.d (D.sl (kV xs) n))] (kH []) 0 (.tup [.c (.d (D.sl (kV (bG xs)) (ka0 (bG xs)))), iE (jR xs)]) (kH []) 0 := by
 refine Fun.mk (n := 28) Tryz.func32 rfl rfl (ka4 rfl) ?_
 intro cx hcx
 refine kK [.no, .no] True [(0, .e (qC xs n))] [] 0 trivial ?_
 refine AW.seq ?_
 rcases kb3 (dA xs) with hx1 | hx1
 ·refine kT [.no, .call [] (bV true) [] 0 [] none, .no] (Fun 60 [.c (.d (D.sl (kV xs) n))] (kH []) 0 (bV true) (kH []) 0) [(0, .e (qC xs n)), (9, bV false)] (by have h0 := (aC xs n zo zo (qJ : BsW xs)); rw [hx1] at h0; exact h0) ?_
  refine yA ?_
  refine kT [.no] True [(0, .e (qC xs n)), (4, nV)] trivial ?_
  refine AW.seq ?_
  refine kT [.no, .no, .no] True [(0, .e (qC xs n)), (4, nV), (10, .e (qC xs n)), (11, uV n), (12, iV 0)] trivial ?_
  refine AW.block ?_
  refine AW.adoptS 4 4 63 rfl ?_
  refine qH 0 hcx (fun (x : {x : Nat × Nat × List Bx // match x with | (i, q, o) => (i ≤ n ∧ q ≤ i) ∧ (pK xs i = o) ∧ (ka0 o = q)}) => match x with | ⟨(i, q, o), _⟩ => (⟨[(0, .e (qC xs n)), (4, oV 1 0 q 4), (10, .e (qC xs n)), (11, uV n), (12, uV i)], [(1, some (63, .ds (kV o)))], 2⟩ : ES)) (fun x => match x with | ⟨(i, q, o), _⟩ => n - i) ⟨((0 : Nat), (0 : Nat), (([] : List Bx) : List Bx)), ⟨yH, rfl, rfl⟩⟩ [(1, 0)] (P := (kN (kV xs)) ∧ (kJ n) ∧ (kJ 0) ∧ (kJ 0) ∧ (kN (kV xs)) ∧ (kJ n) ∧ (kS (n : Int)) ∧ (kS 0) ∧ (((kV ([] : List Bx)) : List D) = ([] : List D))) zk ⟨rfl, rfl, rfl, rfl, rfl, rfl, rfl, rfl, (by first | rfl | with_reducible assumption)⟩ ?_
  rintro ⟨⟨i, q, o⟩, hinv0⟩
  obtain ⟨hi, ho, hq⟩ : (i ≤ n ∧ q ≤ i) ∧ (pK xs i = o) ∧ (ka0 o = q) := hinv0
  refine uL (l := [(0, .e (qC xs n)), (4, oV 1 0 q 4), (10, .e (qC xs n)), (11, uV n), (12, uV i)]) (g := [(1, some (63, .ds (kV o)))]) (nx := 2) rfl rfl rfl ?_
  by_cases hx2 : (((i : Nat) : Int) < ((n : Nat) : Int))
  ·refine kK [.b true] (((i : Int) < (n : Int))) [(0, .e (qC xs n)), (4, oV 1 0 q 4), (10, .e (qC xs n)), (11, uV n), (12, uV i), (13, bV true)] [(1, some (63, .ds (kV o)))] 2 zo ?_
   refine AW.seq ?_
   refine vR ?_
   refine AW.seq ?_
   refine AW.block ?_
   obtain ⟨hx3, hx4, hx5, hx6, hx7⟩ := BsW.at (qJ : BsW xs) (i)
   refine kK [.no, .n i, .ds (y3 xs i), .no, .no, .no] ((kS (i : Int)) ∧ (i < n) ∧ (ka5 4 (ka3 (i * 4) (kV xs)) = (y3 xs i)) ∧ (((y3 xs i) : List D).length = 4)) [(0, .e (qC xs n)), (4, oV 1 0 q 4), (5, uV i), (6, rV 2 0), (10, .e (qC xs n)), (11, uV n), (12, uV i)] [(1, some (63, .ds (kV o))), (2, some (63, (u0y xs i)))] 3 ⟨rfl, zo, (vQ bI), rfl⟩ ?_
   rcases kb3 (goB xs i) with hx8 | hx8
   ·refine kT [.no, .no, .call [] (bV true) [] 0 [] none, .no] (Fun 61 [.c (.d (D.sl (kV xs) n)), uE i] (kH []) 0 (bV true) (kH []) 0) [(0, .e (qC xs n)), (4, oV 1 0 q 4), (6, rV 2 0), (10, .e (qC xs n)), (11, uV n), (12, uV i), (20, bV false)] (by have h0 := (u0g xs n i zo zo (qJ : BsW xs) zo); rw [hx8] at h0; exact h0) ?_
    refine yA ?_
    refine aG [.w, .no] (yQ ((i : Int) + 1)) [(0, .e (qC xs n)), (4, oV 1 0 q 4), (10, .e (qC xs n)), (11, uV n), (12, iV (↑i + 1))] [(1, some (63, .ds (kV o)))] 3 ⟨by omega, by omega⟩ ?_
    exact qE ⟨(((i + 1) : Nat), (q : Nat), (o : List Bx)), ⟨yH, (by first | exact u9p ho (by assumption) | exact u9q ho (by assumption)), (by first | omega | (simp only [k8, kZ, ka6, ka9, kb1] <;> omega))⟩⟩ [] (P := (kN (kV xs)) ∧ (kJ n) ∧ (kJ 0) ∧ (kJ q) ∧ (kN (kV xs)) ∧ (kJ n) ∧ (kS (n : Int)) ∧ (c7 i) ∧ (kN (kV o))) zk ⟨rfl, rfl, rfl, rfl, rfl, rfl, rfl, bH, rfl⟩ (show n - (i + 1) < n - i from vZ)
   ·refine kT [.no, .no, .call [] (bV false) [] 0 [] none, .no] (Fun 61 [.c (.d (D.sl (kV xs) n)), uE i] (kH []) 0 (bV false) (kH []) 0) [(0, .e (qC xs n)), (4, oV 1 0 q 4), (6, rV 2 0), (10, .e (qC xs n)), (11, uV n), (12, uV i), (20, bV true)] (by have h0 := (u0g xs n i zo zo (qJ : BsW xs) zo); rw [hx8] at h0; exact h0) ?_
    refine zt ?_
    refine aG [.no, .no, .call [] (.e ((oW xs i))) [] 0 [] none, .no, .ap none (q + 1) (kV (o ++ ([(kF (kU xs i) (qG xs i) (qA xs i) (kX xs i) (qF xs i) (k9 xs i))] : List Bx))), .no] ((_) ∧ ((y3 xs i).length = 1 * 4) ∧ (((kV o) : List D).length = q * 4) ∧ ((q + 1) * 80 ≤ 140737488355328) ∧ (q + 1 = (q + 1)) ∧ (((kV o) : List D) ++ (y3 xs i) = (kV (o ++ ([(kF (kU xs i) (qG xs i) (qA xs i) (kX xs i) (qF xs i) (k9 xs i))] : List Bx))))) [(0, .e (qC xs n)), (4, oV 4 0 (q + 1) 4), (10, .e (qC xs n)), (11, uV n), (12, uV i)] [(4, some (63, .ds (kV (o ++ ([(kF (kU xs i) (qG xs i) (qA xs i) (kX xs i) (qF xs i) (k9 xs i))] : List Bx)))))] 5 ⟨(u8j (kU xs i) (qG xs i) (qA xs i) (kX xs i) (ka0 (kX xs i)) (qF xs i) (k9 xs i) kO kO rfl kO kO kO (BsW.ms (qJ : BsW xs) _)), vS, vS, zo, zo, (tT o (kU xs i) (qG xs i) (qA xs i) (kX xs i) (ka0 (kX xs i)) (qF xs i) (k9 xs i) (by first | rfl | omega))⟩ ?_
    refine yT [.w, .no] (yQ ((i : Int) + 1)) [(0, .e (qC xs n)), (4, oV 4 0 (q + 1) 4), (10, .e (qC xs n)), (11, uV n), (12, iV (↑i + 1))] ⟨by omega, by omega⟩ ?_
    exact qE ⟨(((i + 1) : Nat), ((q + 1) : Nat), ((o ++ ([(kF (kU xs i) (qG xs i) (qA xs i) (kX xs i) (qF xs i) (k9 xs i))] : List Bx)) : List Bx)), ⟨yH, (by first | exact u9p ho (by assumption) | exact u9q ho (by assumption)), (by first | omega | (simp only [k8, kZ, ka6, ka9, kb1] <;> omega))⟩⟩ [(1, 4)] (P := (kN (kV xs)) ∧ (kJ n) ∧ (kJ 0) ∧ (kJ (q + 1)) ∧ (kN (kV xs)) ∧ (kJ n) ∧ (kS (n : Int)) ∧ (c7 i) ∧ (kN (kV (o ++ ([(kF (kU xs i) (qG xs i) (qA xs i) (kX xs i) (qF xs i) (k9 xs i))] : List Bx))))) zk ⟨rfl, rfl, rfl, rfl, rfl, rfl, rfl, bH, rfl⟩ (show n - (i + 1) < n - i from vZ)
  ·refine kK [.b false] (¬ ((i : Int) < (n : Int))) [(0, .e (qC xs n)), (4, oV 1 0 q 4), (10, .e (qC xs n)), (11, uV n), (12, uV i), (13, bV false)] [(1, some (63, .ds (kV o)))] 2 zo ?_
   refine AW.seq ?_
   refine zf ?_
   refine AW.exit ?_
   refine kK [.no, .no, .no] True [(2, oV 1 0 q 4), (3, iV 0)] [(1, some (63, .ds (kV o)))] 2 trivial ?_
   refine AW.freeze 1 (l' := [(2, .e (qC o q)), (3, iV 0)]) (g' := []) rfl (FzS.cons rfl (.e (.c (@FzC.own 1 ((kV o) : List D) 0 q 4 true ((kV o) : List D) rR vS))) (FzS.cons rfl (.same _) FzS.nil)) FzG.nil ?_
   obtain ⟨hz1, hz2⟩ := k5t hx1
   have hz3 : pK xs (ka0 xs) = o := by have h9 := ho; rw [show i = ka0 xs by omega] at h9; exact h9
   refine AW.ret ?_
   exact kB (.inr rfl) [] (P := (((kV (bG xs)) : List D) = (kV o)) ∧ (((ka0 (bG xs)) : Nat) = q) ∧ (((jR xs) : Int) = 0)) zk ⟨(by first | rfl | (rw [hz1]; rfl) | (rw [hz1, hz3]; done) | (rw [hz1, hz3]; rfl) | (rw [hz1, hz3]; omega) | (rw [hz2]; done) | exact hz2 | omega), (by first | rfl | (rw [hz1]; rfl) | (rw [hz1, hz3]; done) | (rw [hz1, hz3]; rfl) | (rw [hz1, hz3]; omega) | (rw [hz2]; done) | exact hz2 | omega), (by first | rfl | (rw [hz1]; rfl) | (rw [hz1, hz3]; done) | (rw [hz1, hz3]; rfl) | (rw [hz1, hz3]; omega) | (rw [hz2]; done) | exact hz2 | omega)⟩
 ·refine kT [.no, .call [] (bV false) [] 0 [] none, .no] (Fun 60 [.c (.d (D.sl (kV xs) n))] (kH []) 0 (bV false) (kH []) 0) [(0, .e (qC xs n)), (9, bV true)] (by have h0 := (aC xs n zo zo (qJ : BsW xs)); rw [hx1] at h0; exact h0) ?_
  refine zt ?_
  refine kT [.no, .no] True [(2, nV), (3, iV 1)] trivial ?_
  obtain ⟨hz1, hz2⟩ := u9t hx1
  refine vN (l' := [(2, qK ([] : List D) 0), (3, iV 1)]) (g' := []) (NlS.cons rfl (.e (.c .nil)) (NlS.cons rfl (.same _) NlS.nil)) NlG.nil ?_
  refine AW.ret ?_
  exact kB (.inr rfl) [] (P := (((kV (bG xs)) : List D) = ([] : List D)) ∧ (((ka0 (bG xs)) : Nat) = 0) ∧ (((jR xs) : Int) = 1)) zk ⟨(by first | rfl | (rw [hz1]; rfl) | (rw [hz1, hz3]; done) | (rw [hz1, hz3]; rfl) | (rw [hz1, hz3]; omega) | (rw [hz2]; done) | exact hz2 | omega), (by first | rfl | (rw [hz1]; rfl) | (rw [hz1, hz3]; done) | (rw [hz1, hz3]; rfl) | (rw [hz1, hz3]; omega) | (rw [hz2]; done) | exact hz2 | omega), (by first | rfl | (rw [hz1]; rfl) | (rw [hz1, hz3]; done) | (rw [hz1, hz3]; rfl) | (rw [hz1, hz3]; omega) | (rw [hz2]; done) | exact hz2 | omega)⟩
theorem mZ {p : Prop} (h : p := by first | assumption | omega | (simp only [k8, kZ, ka6, ka9, kb1] <;> omega)) : p := h
theorem u38 (l : List Int) (n : Nat) (v : Int) (hl : ka0 l = n * 2) (hb : n ≤ 1000000) (hv : -1 ≤ v ∧ v ≤ 2147483647) : Fun 170 [.agg [.d (D.sl (dI .i64 l) n)], iE v] (kH []) 0 (.e (.agg [.d (D.sl (dI .i64 (eG l v n)) (l3 l v n))])) (kH []) 0 := by
 refine Fun.mk (n := 33) Tryz.func170 rfl rfl (ka4 rfl) ?_
 intro cx hcx
 refine kK [.no, .no] True [(1, iV v), (2, rV 0 0), (4, rV 1 0)] [(0, some (60, .ds [dl l n])), (1, some (60, .ds [qQ]))] 2 trivial ?_
 refine kT [.no] True [(1, iV v), (2, rV 0 0), (4, rV 1 0), (5, nV)] trivial ?_
 refine AW.seq ?_
 refine kK (qN 4 []) True [(1, iV v), (4, rV 1 0), (5, nV), (9, sV .i64 l n), (10, uV n), (11, iV 0)] [(1, some (60, .ds [qQ]))] 2 trivial ?_
 refine AW.block ?_
 refine AW.adoptS 5 2 95 rfl ?_
 refine qH 0 hcx (fun (x : {x : Nat × Nat × List Int // match x with | (k, q, o) => (k ≤ n ∧ q ≤ k) ∧ (eG l v k = o) ∧ (ka0 o = q * 2)}) => match x with | ⟨(k, q, o), _⟩ => (⟨[(1, iV v), (4, rV 1 0), (5, oV 3 0 q 2), (9, sV .i64 l n), (10, uV n), (11, uV k)], [(1, some (60, .ds [qQ])), (3, some (95, .ds (dI .i64 o)))], 4⟩ : ES)) (fun x => match x with | ⟨(k, q, o), _⟩ => n - k) ⟨((0 : Nat), (0 : Nat), (([] : List Int) : List Int)), ⟨yH, rfl, rfl⟩⟩ [(3, 2)] (P := (kS v) ∧ (kJ 0) ∧ (kJ 0) ∧ (kJ 0) ∧ (kN (dI .i64 l)) ∧ (kJ n) ∧ (kS (n : Int)) ∧ (kS 0) ∧ (kN [qQ]) ∧ (((dI .i64 ([] : List Int)) : List D) = ([] : List D))) zk ⟨rfl, rfl, rfl, rfl, rfl, rfl, rfl, rfl, rfl, (by first | rfl | with_reducible assumption)⟩ ?_
 rintro ⟨⟨k, q, o⟩, hinv0⟩
 obtain ⟨hk, ho, hq⟩ : (k ≤ n ∧ q ≤ k) ∧ (eG l v k = o) ∧ (ka0 o = q * 2) := hinv0
 refine uL (l := [(1, iV v), (4, rV 1 0), (5, oV 3 0 q 2), (9, sV .i64 l n), (10, uV n), (11, uV k)]) (g := [(1, some (60, .ds [qQ])), (3, some (95, .ds (dI .i64 o)))]) (nx := 4) rfl rfl rfl ?_
 by_cases hx1 : (((k : Nat) : Int) < ((n : Nat) : Int))
 ·refine kK [.b true] (((k : Int) < (n : Int))) [(1, iV v), (4, rV 1 0), (5, oV 3 0 q 2), (9, sV .i64 l n), (10, uV n), (11, uV k), (12, bV true)] [(1, some (60, .ds [qQ])), (3, some (95, .ds (dI .i64 o)))] 4 zo ?_
  refine AW.seq ?_
  refine vR ?_
  refine AW.seq ?_
  refine AW.block ?_
  refine kK [.n k, .ds [iD (ka1 l (k * 2) 0), iD (ka1 l ((k * 2) + 1) 0)], .no, .no] ((kS (k : Int)) ∧ (k < n) ∧ (ka5 2 (ka3 (k * 2) (dI .i64 l)) = [iD (ka1 l (k * 2) 0), iD (ka1 l ((k * 2) + 1) 0)]) ∧ (([iD (ka1 l (k * 2) 0), iD (ka1 l ((k * 2) + 1) 0)] : List D).length = 2)) [(1, iV v), (4, rV 1 0), (5, oV 3 0 q 2), (7, rV 4 0), (9, sV .i64 l n), (10, uV n), (11, uV k)] [(1, some (60, .ds [qQ])), (3, some (95, .ds (dI .i64 o))), (4, some (95, .ds [iD (ka1 l (k * 2) 0), iD (ka1 l ((k * 2) + 1) 0)]))] 5 ⟨rfl, zo, (b9 .i64 l (k * 2) 2 vS), rfl⟩ ?_
  by_cases hx2 : (v < (ka1 l ((k * 2) + 1) 0))
  ·refine kT [.no, .no, .no, .b true] ((v < (ka1 l ((k * 2) + 1) 0))) [(1, iV v), (4, rV 1 0), (5, oV 3 0 q 2), (7, rV 4 0), (9, sV .i64 l n), (10, uV n), (11, uV k), (18, bV true)] zo ?_
   refine zt ?_
   refine aG (qN 4 (.w :: qN 5 [.ap none (q + 1) (dI .i64 (o ++ ([(max (ka1 l (k * 2) 0) (v + 1)), (ka1 l ((k * 2) + 1) 0)] : List Int))), .no])) ((yQ (v + 1)) ∧ ([iD (max (ka1 l (k * 2) 0) (v + 1)), iD (ka1 l ((k * 2) + 1) 0)].length = 1 * 2) ∧ (((dI .i64 o) : List D).length = q * 2) ∧ ((q + 1) * 16 ≤ 140737488355328) ∧ (q + 1 = (q + 1)) ∧ (((dI .i64 o) : List D) ++ [iD (max (ka1 l (k * 2) 0) (v + 1)), iD (ka1 l ((k * 2) + 1) 0)] = (dI .i64 (o ++ ([(max (ka1 l (k * 2) 0) (v + 1)), (ka1 l ((k * 2) + 1) 0)] : List Int))))) [(1, iV v), (4, rV 1 0), (5, oV 6 0 (q + 1) 2), (9, sV .i64 l n), (10, uV n), (11, uV k)] [(1, some (60, .ds [qQ])), (6, some (95, .ds (dI .i64 (o ++ ([(max (ka1 l (k * 2) 0) (v + 1)), (ka1 l ((k * 2) + 1) 0)] : List Int)))))] 7 ⟨⟨by omega, by omega⟩, vS, vS, zo, zo, (y9 .i64 o ([(max (ka1 l (k * 2) 0) (v + 1)), (ka1 l ((k * 2) + 1) 0)] : List Int))⟩ ?_
   refine yT [.w, .no] (yQ ((k : Int) + 1)) [(1, iV v), (4, rV 1 0), (5, oV 6 0 (q + 1) 2), (9, sV .i64 l n), (10, uV n), (11, iV (↑k + 1))] ⟨by omega, by omega⟩ ?_
   exact qE ⟨(((k + 1) : Nat), ((q + 1) : Nat), ((o ++ ([(max (ka1 l (k * 2) 0) (v + 1)), (ka1 l ((k * 2) + 1) 0)] : List Int)) : List Int)), ⟨yH, (by first | exact v25 ho zo (by first | rfl | (rw [Int.max_def]; split <;> omega)) rfl | exact v26 ho zo), mZ⟩⟩ [(3, 6)] (P := (kS v) ∧ (kJ 0) ∧ (kJ 0) ∧ (kJ (q + 1)) ∧ (kN (dI .i64 l)) ∧ (kJ n) ∧ (kS (n : Int)) ∧ (c7 k) ∧ (kN [qQ]) ∧ (kN (dI .i64 (o ++ ([(max (ka1 l (k * 2) 0) (v + 1)), (ka1 l ((k * 2) + 1) 0)] : List Int))))) zk ⟨rfl, rfl, rfl, rfl, rfl, rfl, rfl, bH, rfl, rfl⟩ (show n - (k + 1) < n - k from vZ)
  ·refine kT [.no, .no, .no, .b false] (¬ (v < (ka1 l ((k * 2) + 1) 0))) [(1, iV v), (4, rV 1 0), (5, oV 3 0 q 2), (7, rV 4 0), (9, sV .i64 l n), (10, uV n), (11, uV k), (18, bV false)] zo ?_
   refine yA ?_
   refine aG [.w, .no] (yQ ((k : Int) + 1)) [(1, iV v), (4, rV 1 0), (5, oV 3 0 q 2), (9, sV .i64 l n), (10, uV n), (11, iV (↑k + 1))] [(1, some (60, .ds [qQ])), (3, some (95, .ds (dI .i64 o)))] 5 ⟨by omega, by omega⟩ ?_
   exact qE ⟨(((k + 1) : Nat), (q : Nat), (o : List Int)), ⟨yH, (by first | exact v25 ho zo (by first | rfl | (rw [Int.max_def]; split <;> omega)) rfl | exact v26 ho zo), mZ⟩⟩ [] (P := (kS v) ∧ (kJ 0) ∧ (kJ 0) ∧ (kJ q) ∧ (kN (dI .i64 l)) ∧ (kJ n) ∧ (kS (n : Int)) ∧ (c7 k) ∧ (kN [qQ]) ∧ (kN (dI .i64 o))) zk ⟨rfl, rfl, rfl, rfl, rfl, rfl, rfl, bH, rfl, rfl⟩ (show n - (k + 1) < n - k from vZ)
 ·refine kK [.b false] (¬ ((k : Int) < (n : Int))) [(1, iV v), (4, rV 1 0), (5, oV 3 0 q 2), (9, sV .i64 l n), (10, uV n), (11, uV k), (12, bV false)] [(1, some (60, .ds [qQ])), (3, some (95, .ds (dI .i64 o)))] 4 zo ?_
  refine AW.seq ?_
  refine zf ?_
  refine AW.exit ?_
  refine kK [.no, .no, .no] True [(4, rV 1 0)] [(1, some (60, .cs [.own 3 0 q 2 true])), (3, some (95, .ds (dI .i64 o)))] 4 trivial ?_
  refine AW.freeze 3 (l' := [(4, rV 1 0)]) (g' := [(1, some (60, .ds [dl o q]))]) rfl (FzS.cons rfl (.same _) FzS.nil) (FzG.to (bc := .cs [.own 3 0 q 2 true]) rfl (by rfl) (FzL.cons (@FzC.own 3 ((dI .i64 o) : List D) 0 q 2 true ((dI .i64 o) : List D) rR vS) FzL.nil) FzG.nil) ?_
  have hz1 : eG l v n = o := by have h9 := ho; rw [show k = n by omega] at h9; exact h9
  have hz2 : l3 l v n = q := by unfold l3; rw [hz1]; omega
  refine AW.ret ?_
  exact kB (.inr rfl) [] (P := (((dI .i64 (eG l v n)) : List D) = (dI .i64 o)) ∧ (((l3 l v n) : Nat) = q)) zk ⟨(by first | rfl | (rw [hz1]; done) | exact hz2 | exact congrArg _ hz1 | omega), (by first | rfl | (rw [hz1]; done) | exact hz2 | exact congrArg _ hz1 | omega)⟩
theorem k03 {p : Prop} (h : p := by first | exact u6u (by omega) | exact v3t (by omega) | exact v3u (by omega) (by omega)) : p := h
theorem lQ (a b : List Int) (n m : Nat) (ha : ka0 a = n * 2) (hb : ka0 b = m * 2) (h3 : n ≤ 1000000) (h4 : m ≤ 1000000) : Fun 160 [.agg [.d (D.sl (dI .i64 a) n)], .agg [.d (D.sl (dI .i64 b) m)]] (kH []) 0 (.tup [.agg [.d (D.sl (dI .i64 (uR (kC a n) (kC b m))) (qT (kC a n) (kC b m)))], .c (.d (D.lit (.bool (mJ a n b m))))]) (kH []) 0 := by
 refine Fun.mk (n := 30) Tryz.func160 rfl rfl (ka4 rfl) ?_
 intro cx hcx
 refine kK (qN 4 []) True [(2, rV 0 0), (3, rV 1 0), (4, rV 2 0)] [(0, some (60, .ds [dl a n])), (1, some (60, .ds [dl b m])), (2, some (60, .ds [qQ]))] 3 trivial ?_
 have hx1 : ((ka0 (uR (kC a n) (kC b m))) = ((qT (kC a n) (kC b m)) * 2)) := yI _ _
 have hx2 : ((qT (kC a n) (kC b m)) ≤ 64) := aJ _ _
 refine kK [.no, .no, .call [] (.e (.agg [.d (dl (uR (kC a n) (kC b m)) (qT (kC a n) (kC b m)))])) [] 0 [] none, .no, .no] _ [(2, rV 0 0), (3, rV 1 0), (4, rV 2 0), (6, rV 3 0)] [(0, some (60, .ds [dl a n])), (1, some (60, .ds [dl b m])), (2, some (60, .ds [qQ])), (3, some (60, .ds [dl (uR (kC a n) (kC b m)) (qT (kC a n) (kC b m))]))] 4 (gJ a b n m zo zo zo zo) ?_
 refine AW.seq ?_
 by_cases hx3 : ((((qT (kC a n) (kC b m)) : Nat) : Int) < 64)
 ·refine kT [.no, .no, .no, .b true] (((qT (kC a n) (kC b m) : Int) < 64)) [(2, rV 0 0), (3, rV 1 0), (4, rV 2 0), (6, rV 3 0), (14, bV true)] zo ?_
  refine zt ?_
  refine kK [.no, .no, .no] True [(4, rV 2 0), (5, bV true)] [(2, some (60, .ds [dl (uR (kC a n) (kC b m)) (qT (kC a n) (kC b m))]))] 4 trivial ?_
  refine AW.ret ?_
  exact kB (.inr rfl) [] (P := (kN (dI .i64 (uR (kC a n) (kC b m)))) ∧ (kJ (qT (kC a n) (kC b m))) ∧ ((mJ a n b m) = true)) zk ⟨rfl, rfl, k03⟩
 ·refine kT [.no, .no, .no, .b false] (¬ ((qT (kC a n) (kC b m) : Int) < 64)) [(2, rV 0 0), (3, rV 1 0), (4, rV 2 0), (6, rV 3 0), (14, bV false)] zo ?_
  refine yA ?_
  have hx4 : 0 ≤ ka1 (uR (kC a n) (kC b m)) 127 0 ∧ ka1 (uR (kC a n) (kC b m)) 127 0 ≤ 2147483647 := v0y ha hb zo
  have hx5 : ((ka0 (eG a (ka1 (uR (kC a n) (kC b m)) 127 0) n)) = ((l3 a (ka1 (uR (kC a n) (kC b m)) 127 0) n) * 2)) := (tZ a (ka1 (uR (kC a n) (kC b m)) 127 0) n).1
  have hx6 : ((l3 a (ka1 (uR (kC a n) (kC b m)) 127 0) n) ≤ n) := (tZ a (ka1 (uR (kC a n) (kC b m)) 127 0) n).2
  have hx7 : ((ka0 (uR (kC (eG a (ka1 (uR (kC a n) (kC b m)) 127 0) n) (l3 a (ka1 (uR (kC a n) (kC b m)) 127 0) n)) (kC b m))) = ((qT (kC (eG a (ka1 (uR (kC a n) (kC b m)) 127 0) n) (l3 a (ka1 (uR (kC a n) (kC b m)) 127 0) n)) (kC b m)) * 2)) := yI _ _
  have hx8 : ((qT (kC (eG a (ka1 (uR (kC a n) (kC b m)) 127 0) n) (l3 a (ka1 (uR (kC a n) (kC b m)) 127 0) n)) (kC b m)) ≤ 64) := aJ _ _
  refine kK [.no, .no, .no, .n 63, .no, .d (D.lit (.int .i64 (ka1 (uR (kC a n) (kC b m)) 127 0))), .call [] (.e (.agg [.d (dl (eG a (ka1 (uR (kC a n) (kC b m)) 127 0) n) (l3 a (ka1 (uR (kC a n) (kC b m)) 127 0) n))])) [] 0 [] none, .no, .call [] (.e (.agg [.d (dl (uR (kC (eG a (ka1 (uR (kC a n) (kC b m)) 127 0) n) (l3 a (ka1 (uR (kC a n) (kC b m)) 127 0) n)) (kC b m)) (qT (kC (eG a (ka1 (uR (kC a n) (kC b m)) 127 0) n) (l3 a (ka1 (uR (kC a n) (kC b m)) 127 0) n)) (kC b m)))])) [] 0 [] none, .no, .no] ((kS 63) ∧ ((63 : Nat) < (qT (kC a n) (kC b m))) ∧ ((ka3 1 (ka3 126 (dI .i64 (uR (kC a n) (kC b m)))))[0]? = some (D.lit (.int .i64 (ka1 (uR (kC a n) (kC b m)) 127 0)))) ∧ (_) ∧ (_)) [(4, rV 2 0), (6, rV 3 0), (7, rV 4 0)] [(2, some (60, .ds [qQ])), (3, some (60, .ds [dl (uR (kC a n) (kC b m)) (qT (kC a n) (kC b m))])), (4, some (60, .ds [dl (uR (kC (eG a (ka1 (uR (kC a n) (kC b m)) 127 0) n) (l3 a (ka1 (uR (kC a n) (kC b m)) 127 0) n)) (kC b m)) (qT (kC (eG a (ka1 (uR (kC a n) (kC b m)) 127 0) n) (l3 a (ka1 (uR (kC a n) (kC b m)) 127 0) n)) (kC b m))]))] 5 ⟨rfl, zo, (by first | (rw [kc8]; exact yJ _ _ _ vS) | (rw [kc8, Nat.add_comm]; exact yJ _ _ _ vS)), (u38 a n (ka1 (uR (kC a n) (kC b m)) 127 0) zo zo kO), (gJ (eG a (ka1 (uR (kC a n) (kC b m)) 127 0) n) b (l3 a (ka1 (uR (kC a n) (kC b m)) 127 0) n) m kO zo kO zo)⟩ ?_
  by_cases hx9 : ((((qT (kC (eG a (ka1 (uR (kC a n) (kC b m)) 127 0) n) (l3 a (ka1 (uR (kC a n) (kC b m)) 127 0) n)) (kC b m)) : Nat) : Int) = 0)
  ·refine kK (qN 4 [.b true, .no, .no]) (((((qT (kC (eG a (ka1 (uR (kC a n) (kC b m)) 127 0) n) (l3 a (ka1 (uR (kC a n) (kC b m)) 127 0) n)) (kC b m)) : Nat) : Int) = 0)) [(4, rV 2 0), (5, bV true)] [(2, some (60, .ds [dl (uR (kC a n) (kC b m)) (qT (kC a n) (kC b m))]))] 5 zo ?_
   refine AW.ret ?_
   exact kB (.inr rfl) [] (P := (kN (dI .i64 (uR (kC a n) (kC b m)))) ∧ (kJ (qT (kC a n) (kC b m))) ∧ ((mJ a n b m) = true)) zk ⟨rfl, rfl, k03⟩
  ·refine kK (qN 4 [.b false, .no, .no]) (¬ ((((qT (kC (eG a (ka1 (uR (kC a n) (kC b m)) 127 0) n) (l3 a (ka1 (uR (kC a n) (kC b m)) 127 0) n)) (kC b m)) : Nat) : Int) = 0)) [(4, rV 2 0), (5, bV false)] [(2, some (60, .ds [dl (uR (kC a n) (kC b m)) (qT (kC a n) (kC b m))]))] 5 zo ?_
   refine AW.ret ?_
   exact kB (.inr rfl) [] (P := (kN (dI .i64 (uR (kC a n) (kC b m)))) ∧ (kJ (qT (kC a n) (kC b m))) ∧ ((mJ a n b m) = false)) zk ⟨rfl, rfl, k03⟩
theorem rQ {p : Prop} (h : p := by first | exact u8y (by assumption) (by assumption) | exact v2u (by assumption) | exact v2t (by assumption)) : p := h
abbrev eO : BC := .ds [iD 0, D.lit (.slice none 0 0), D.lit (.slice none 0 0), D.lit (.slice none 0 0)]
abbrev mE (k : Int) (k2 : Int) (r : List Int) (rn : Nat) (r2 : List Int) (rn2 : Nat) (m : List (List Int)) (m2 : List (List Int)) (c : Nat) (s : List Int) (sn : Nat) (s2 : List Int) (sn2 : Nat) : BC := .ds [iD (qV k k2), D.sl (dI .i64 (uR (kC r rn) (kC r2 rn2))) (qT (kC r rn) (kC r2 rn2)), D.sl (kL (u9 m m2 c)) (ka0 (u9 m m2 c)), D.sl (dI .i64 (uR (kC s sn) (kC s2 sn2))) (qT (kC s sn) (kC s2 sn2))]
abbrev fY (r : List Int) (rn : Nat) (r2 : List Int) (rn2 : Nat) : BC := .ds [D.sl (dI .i64 (uR (kC r rn) (kC r2 rn2))) (qT (kC r rn) (kC r2 rn2))]
theorem k3l (k : Int) (r : List Int) (rn : Nat) (m : List (List Int)) (c : Nat) (s : List Int) (sn : Nat) (k2 : Int) (r2 : List Int) (rn2 : Nat) (m2 : List (List Int)) (c2 : Nat) (s2 : List Int) (sn2 : Nat) (hr : ka0 r = rn * 2) (hs : ka0 s = sn * 2) (hc : ka0 m = c) (h1 : rn ≤ 1000000) (h2 : sn ≤ 1000000) (h3 : c ≤ 1000000) (hW : MsW m) (hr2 : ka0 r2 = rn2 * 2) (hs2 : ka0 s2 = sn2 * 2) (hc2 : ka0 m2 = c2) (h12 : rn2 ≤ 1000000) (h22 : sn2 ≤ 1000000) (h32 : c2 ≤ 1000000) (hW2 : MsW m2) : Fun 134 [.agg [iC k, .d (D.sl (dI .i64 r) rn), .d (D.sl (kL m) c), .d (D.sl (dI .i64 s) sn)], .agg [iC k2, .d (D.sl (dI .i64 r2) rn2), .d (D.sl (kL m2) c2), .d (D.sl (dI .i64 s2) sn2)]] (kH []) 0 (.tup [.agg [iC (qV k k2), .d (D.sl (dI .i64 (uR (kC r rn) (kC r2 rn2))) (qT (kC r rn) (kC r2 rn2))), .d (D.sl (kL (u9 m m2 c)) (ka0 (u9 m m2 c))), .d (D.sl (dI .i64 (uR (kC s sn) (kC s2 sn2))) (qT (kC s sn) (kC s2 sn2)))], .c (.d (D.lit (.bool (xsB r rn r2 rn2 s sn s2 sn2))))]) (kH []) 0 := by
 refine Fun.mk (n := 43) Tryz.func134 rfl rfl (ka4 rfl) ?_
 intro cx hcx
 refine kK (qN 4 []) True [(2, rV 0 0), (3, rV 1 0), (4, rV 2 0)] [(0, some (63, .ds [iD k, dl r rn, D.sl (kL m) c, dl s sn])), (1, some (63, .ds [iD k2, dl r2 rn2, D.sl (kL m2) c2, dl s2 sn2])), (2, some (63, eO))] 3 trivial ?_
 rcases kb3 (mJ r rn r2 rn2) with hx1 | hx1
 ·have hx2 : ((ka0 (uR (kC r rn) (kC r2 rn2))) = ((qT (kC r rn) (kC r2 rn2)) * 2)) := yI _ _
  have hx3 : ((qT (kC r rn) (kC r2 rn2)) ≤ 64) := aJ _ _
  refine kK (qN 4 (.call [] (.tup [.agg [.d (dl (uR (kC r rn) (kC r2 rn2)) (qT (kC r rn) (kC r2 rn2)))], .c (.d (D.lit (.bool true)))]) [] 0 [] none :: qN 6 [])) (Fun 160 [.agg [.d (dl r rn)], .agg [.d (dl r2 rn2)]] (kH []) 0 (.tup [.agg [.d (dl (uR (kC r rn) (kC r2 rn2)) (qT (kC r rn) (kC r2 rn2)))], .c (.d (D.lit (.bool true)))]) (kH []) 0) [(2, rV 0 0), (3, rV 1 0), (4, rV 2 0), (6, rV 3 0), (7, bV true)] [(0, some (63, .ds [iD k, dl r rn, D.sl (kL m) c, dl s sn])), (1, some (63, .ds [iD k2, dl r2 rn2, D.sl (kL m2) c2, dl s2 sn2])), (2, some (63, eO)), (3, some (60, (fY r rn r2 rn2)))] 4 (by have h0 := (lQ r r2 rn rn2 zo zo zo zo); rw [hx1] at h0; exact h0) ?_
  rcases kb3 (mJ s sn s2 sn2) with hx4 | hx4
  ·have hx5 : ((ka0 (uR (kC s sn) (kC s2 sn2))) = ((qT (kC s sn) (kC s2 sn2)) * 2)) := yI _ _
   have hx6 : ((qT (kC s sn) (kC s2 sn2)) ≤ 64) := aJ _ _
   refine kK (qN 4 (.call [] (.tup [.agg [.d (dl (uR (kC s sn) (kC s2 sn2)) (qT (kC s sn) (kC s2 sn2)))], .c (.d (D.lit (.bool true)))]) [] 0 [] none :: qN 6 [])) (Fun 160 [.agg [.d (dl s sn)], .agg [.d (dl s2 sn2)]] (kH []) 0 (.tup [.agg [.d (dl (uR (kC s sn) (kC s2 sn2)) (qT (kC s sn) (kC s2 sn2)))], .c (.d (D.lit (.bool true)))]) (kH []) 0) [(2, rV 0 0), (3, rV 1 0), (4, rV 2 0), (6, rV 3 0), (7, bV true), (8, rV 4 0), (9, bV true)] [(0, some (63, .ds [iD k, dl r rn, D.sl (kL m) c, dl s sn])), (1, some (63, .ds [iD k2, dl r2 rn2, D.sl (kL m2) c2, dl s2 sn2])), (2, some (63, eO)), (3, some (60, (fY r rn r2 rn2))), (4, some (60, .ds [dl (uR (kC s sn) (kC s2 sn2)) (qT (kC s sn) (kC s2 sn2))]))] 5 (by have h0 := (lQ s s2 sn sn2 zo zo zo zo); rw [hx4] at h0; exact h0) ?_
   have hx7 : ((ka0 (u9 m m2 c)) ≤ c) := cX m m2 c
   refine kK (qN 4 (.i (qV k k2) :: qN 5 (.call [] (qK (kL (u9 m m2 c)) (ka0 (u9 m m2 c))) [] 0 [] none :: qN 8 []))) ((qM .and .i64 k k2 = (qV k k2)) ∧ (_)) [(4, rV 2 0), (5, bV true)] [(2, some (63, (mE k k2 r rn r2 rn2 m m2 c s sn s2 sn2)))] 5 ⟨rfl, (k51 m m2 c c2 zo zo zo zo (qJ : MsW m) (qJ : MsW m2))⟩ ?_
   refine AW.ret ?_
   exact kB (.inr rfl) [] (P := (kS (qV k k2)) ∧ (kN (dI .i64 (uR (kC r rn) (kC r2 rn2)))) ∧ (kJ (qT (kC r rn) (kC r2 rn2))) ∧ (kN (kL (u9 m m2 c))) ∧ (kJ (ka0 (u9 m m2 c))) ∧ (kN (dI .i64 (uR (kC s sn) (kC s2 sn2)))) ∧ (kJ (qT (kC s sn) (kC s2 sn2))) ∧ ((xsB r rn r2 rn2 s sn s2 sn2) = true)) zk ⟨rfl, rfl, rfl, rfl, rfl, rfl, rfl, rQ⟩
  ·have hx8 : ((ka0 (uR (kC s sn) (kC s2 sn2))) = ((qT (kC s sn) (kC s2 sn2)) * 2)) := yI _ _
   have hx9 : ((qT (kC s sn) (kC s2 sn2)) ≤ 64) := aJ _ _
   refine kK (qN 4 (.call [] (.tup [.agg [.d (dl (uR (kC s sn) (kC s2 sn2)) (qT (kC s sn) (kC s2 sn2)))], .c (.d (D.lit (.bool false)))]) [] 0 [] none :: qN 6 [])) (Fun 160 [.agg [.d (dl s sn)], .agg [.d (dl s2 sn2)]] (kH []) 0 (.tup [.agg [.d (dl (uR (kC s sn) (kC s2 sn2)) (qT (kC s sn) (kC s2 sn2)))], .c (.d (D.lit (.bool false)))]) (kH []) 0) [(2, rV 0 0), (3, rV 1 0), (4, rV 2 0), (6, rV 3 0), (7, bV true), (8, rV 4 0), (9, bV false)] [(0, some (63, .ds [iD k, dl r rn, D.sl (kL m) c, dl s sn])), (1, some (63, .ds [iD k2, dl r2 rn2, D.sl (kL m2) c2, dl s2 sn2])), (2, some (63, eO)), (3, some (60, (fY r rn r2 rn2))), (4, some (60, .ds [dl (uR (kC s sn) (kC s2 sn2)) (qT (kC s sn) (kC s2 sn2))]))] 5 (by have h0 := (lQ s s2 sn sn2 zo zo zo zo); rw [hx4] at h0; exact h0) ?_
   have hx10 : ((ka0 (u9 m m2 c)) ≤ c) := cX m m2 c
   refine kK (qN 4 (.i (qV k k2) :: qN 5 (.call [] (qK (kL (u9 m m2 c)) (ka0 (u9 m m2 c))) [] 0 [] none :: qN 8 []))) ((qM .and .i64 k k2 = (qV k k2)) ∧ (_)) [(4, rV 2 0), (5, bV false)] [(2, some (63, (mE k k2 r rn r2 rn2 m m2 c s sn s2 sn2)))] 5 ⟨rfl, (k51 m m2 c c2 zo zo zo zo (qJ : MsW m) (qJ : MsW m2))⟩ ?_
   refine AW.ret ?_
   exact kB (.inr rfl) [] (P := (kS (qV k k2)) ∧ (kN (dI .i64 (uR (kC r rn) (kC r2 rn2)))) ∧ (kJ (qT (kC r rn) (kC r2 rn2))) ∧ (kN (kL (u9 m m2 c))) ∧ (kJ (ka0 (u9 m m2 c))) ∧ (kN (dI .i64 (uR (kC s sn) (kC s2 sn2)))) ∧ (kJ (qT (kC s sn) (kC s2 sn2))) ∧ ((xsB r rn r2 rn2 s sn s2 sn2) = false)) zk ⟨rfl, rfl, rfl, rfl, rfl, rfl, rfl, rQ⟩
 ·have hx11 : ((ka0 (uR (kC r rn) (kC r2 rn2))) = ((qT (kC r rn) (kC r2 rn2)) * 2)) := yI _ _
  have hx12 : ((qT (kC r rn) (kC r2 rn2)) ≤ 64) := aJ _ _
  refine kK (qN 4 (.call [] (.tup [.agg [.d (dl (uR (kC r rn) (kC r2 rn2)) (qT (kC r rn) (kC r2 rn2)))], .c (.d (D.lit (.bool false)))]) [] 0 [] none :: qN 6 [])) (Fun 160 [.agg [.d (dl r rn)], .agg [.d (dl r2 rn2)]] (kH []) 0 (.tup [.agg [.d (dl (uR (kC r rn) (kC r2 rn2)) (qT (kC r rn) (kC r2 rn2)))], .c (.d (D.lit (.bool false)))]) (kH []) 0) [(2, rV 0 0), (3, rV 1 0), (4, rV 2 0), (6, rV 3 0), (7, bV false)] [(0, some (63, .ds [iD k, dl r rn, D.sl (kL m) c, dl s sn])), (1, some (63, .ds [iD k2, dl r2 rn2, D.sl (kL m2) c2, dl s2 sn2])), (2, some (63, eO)), (3, some (60, (fY r rn r2 rn2)))] 4 (by have h0 := (lQ r r2 rn rn2 zo zo zo zo); rw [hx1] at h0; exact h0) ?_
  rcases kb3 (mJ s sn s2 sn2) with hx13 | hx13
  ·have hx14 : ((ka0 (uR (kC s sn) (kC s2 sn2))) = ((qT (kC s sn) (kC s2 sn2)) * 2)) := yI _ _
   have hx15 : ((qT (kC s sn) (kC s2 sn2)) ≤ 64) := aJ _ _
   refine kK (qN 4 (.call [] (.tup [.agg [.d (dl (uR (kC s sn) (kC s2 sn2)) (qT (kC s sn) (kC s2 sn2)))], .c (.d (D.lit (.bool true)))]) [] 0 [] none :: qN 6 [])) (Fun 160 [.agg [.d (dl s sn)], .agg [.d (dl s2 sn2)]] (kH []) 0 (.tup [.agg [.d (dl (uR (kC s sn) (kC s2 sn2)) (qT (kC s sn) (kC s2 sn2)))], .c (.d (D.lit (.bool true)))]) (kH []) 0) [(2, rV 0 0), (3, rV 1 0), (4, rV 2 0), (6, rV 3 0), (7, bV false), (8, rV 4 0), (9, bV true)] [(0, some (63, .ds [iD k, dl r rn, D.sl (kL m) c, dl s sn])), (1, some (63, .ds [iD k2, dl r2 rn2, D.sl (kL m2) c2, dl s2 sn2])), (2, some (63, eO)), (3, some (60, (fY r rn r2 rn2))), (4, some (60, .ds [dl (uR (kC s sn) (kC s2 sn2)) (qT (kC s sn) (kC s2 sn2))]))] 5 (by have h0 := (lQ s s2 sn sn2 zo zo zo zo); rw [hx13] at h0; exact h0) ?_
   have hx16 : ((ka0 (u9 m m2 c)) ≤ c) := cX m m2 c
   refine kK (qN 4 (.i (qV k k2) :: qN 5 (.call [] (qK (kL (u9 m m2 c)) (ka0 (u9 m m2 c))) [] 0 [] none :: qN 7 []))) ((qM .and .i64 k k2 = (qV k k2)) ∧ (_)) [(4, rV 2 0), (5, bV false)] [(2, some (63, (mE k k2 r rn r2 rn2 m m2 c s sn s2 sn2)))] 5 ⟨rfl, (k51 m m2 c c2 zo zo zo zo (qJ : MsW m) (qJ : MsW m2))⟩ ?_
   refine AW.ret ?_
   exact kB (.inr rfl) [] (P := (kS (qV k k2)) ∧ (kN (dI .i64 (uR (kC r rn) (kC r2 rn2)))) ∧ (kJ (qT (kC r rn) (kC r2 rn2))) ∧ (kN (kL (u9 m m2 c))) ∧ (kJ (ka0 (u9 m m2 c))) ∧ (kN (dI .i64 (uR (kC s sn) (kC s2 sn2)))) ∧ (kJ (qT (kC s sn) (kC s2 sn2))) ∧ ((xsB r rn r2 rn2 s sn s2 sn2) = false)) zk ⟨rfl, rfl, rfl, rfl, rfl, rfl, rfl, rQ⟩
  ·have hx17 : ((ka0 (uR (kC s sn) (kC s2 sn2))) = ((qT (kC s sn) (kC s2 sn2)) * 2)) := yI _ _
   have hx18 : ((qT (kC s sn) (kC s2 sn2)) ≤ 64) := aJ _ _
   refine kK (qN 4 (.call [] (.tup [.agg [.d (dl (uR (kC s sn) (kC s2 sn2)) (qT (kC s sn) (kC s2 sn2)))], .c (.d (D.lit (.bool false)))]) [] 0 [] none :: qN 6 [])) (Fun 160 [.agg [.d (dl s sn)], .agg [.d (dl s2 sn2)]] (kH []) 0 (.tup [.agg [.d (dl (uR (kC s sn) (kC s2 sn2)) (qT (kC s sn) (kC s2 sn2)))], .c (.d (D.lit (.bool false)))]) (kH []) 0) [(2, rV 0 0), (3, rV 1 0), (4, rV 2 0), (6, rV 3 0), (7, bV false), (8, rV 4 0), (9, bV false)] [(0, some (63, .ds [iD k, dl r rn, D.sl (kL m) c, dl s sn])), (1, some (63, .ds [iD k2, dl r2 rn2, D.sl (kL m2) c2, dl s2 sn2])), (2, some (63, eO)), (3, some (60, (fY r rn r2 rn2))), (4, some (60, .ds [dl (uR (kC s sn) (kC s2 sn2)) (qT (kC s sn) (kC s2 sn2))]))] 5 (by have h0 := (lQ s s2 sn sn2 zo zo zo zo); rw [hx13] at h0; exact h0) ?_
   have hx19 : ((ka0 (u9 m m2 c)) ≤ c) := cX m m2 c
   refine kK (qN 4 (.i (qV k k2) :: qN 5 (.call [] (qK (kL (u9 m m2 c)) (ka0 (u9 m m2 c))) [] 0 [] none :: qN 7 []))) ((qM .and .i64 k k2 = (qV k k2)) ∧ (_)) [(4, rV 2 0), (5, bV false)] [(2, some (63, (mE k k2 r rn r2 rn2 m m2 c s sn s2 sn2)))] 5 ⟨rfl, (k51 m m2 c c2 zo zo zo zo (qJ : MsW m) (qJ : MsW m2))⟩ ?_
   refine AW.ret ?_
   exact kB (.inr rfl) [] (P := (kS (qV k k2)) ∧ (kN (dI .i64 (uR (kC r rn) (kC r2 rn2)))) ∧ (kJ (qT (kC r rn) (kC r2 rn2))) ∧ (kN (kL (u9 m m2 c))) ∧ (kJ (ka0 (u9 m m2 c))) ∧ (kN (dI .i64 (uR (kC s sn) (kC s2 sn2)))) ∧ (kJ (qT (kC s sn) (kC s2 sn2))) ∧ ((xsB r rn r2 rn2 s sn s2 sn2) = false)) zk ⟨rfl, rfl, rfl, rfl, rfl, rfl, rfl, rQ⟩
abbrev yC (a : List Bx) (i : Nat) (b : List Bx) (j : Nat) := uR (kC (qG a i) (qA a i)) (kC (qG b j) (qA b j))
abbrev u5 (a : List Bx) (i : Nat) (b : List Bx) (j : Nat) := qT (kC (qG a i) (qA a i)) (kC (qG b j) (qA b j))
abbrev qS (a : List Bx) (i : Nat) (b : List Bx) (j : Nat) := u9 (kX a i) (kX b j) (ka0 (kX a i))
abbrev yB (a : List Bx) (i : Nat) (b : List Bx) (j : Nat) := uR (kC (qF a i) (k9 a i)) (kC (qF b j) (k9 b j))
abbrev u1 (a : List Bx) (i : Nat) (b : List Bx) (j : Nat) := qT (kC (qF a i) (k9 a i)) (kC (qF b j) (k9 b j))
abbrev iO (a : List Bx) (i : Nat) (b : List Bx) (j : Nat) := kF (qV (kU a i) (kU b j)) (yC a i b j) (u5 a i b j) (qS a i b j) (yB a i b j) (u1 a i b j)
abbrev a7 (a : List Bx) (i : Nat) : BC := .ds [iD (kU a i), D.sl (dI .i64 (qG a i)) (qA a i), D.sl (kL (kX a i)) (ka0 (kX a i)), D.sl (dI .i64 (qF a i)) (k9 a i)]
abbrev k1v (a : List Bx) (i : Nat) (b : List Bx) (j : Nat) : BC := .ds [iD (qV (kU a i) (kU b j)), D.sl (dI .i64 (yC a i b j)) (u5 a i b j), D.sl (kL (qS a i b j)) (ka0 (qS a i b j)), D.sl (dI .i64 (yB a i b j)) (u1 a i b j)]
theorem v2h (a b : List Bx) (n m : Nat) (hn : ka0 a = n) (hm : ka0 b = m) (h1 : n ≤ 1000) (h2 : m ≤ 1000) (hW : BsW a) (hV : BsW b) : Fun 97 [.c (.d (D.sl (kV a) n)), .c (.d (D.sl (kV b) m))] (kH []) 0 (.tup [.c (.d (D.sl (kV (yY a b)) (ka0 (yY a b)))), iE (fD a b)]) (kH []) 0 := by
 refine Fun.mk (n := 59) Tryz.func97 rfl rfl (ka4 rfl) ?_
 intro cx hcx
 refine kK [.no, .no] True [(0, .e (qC a n)), (1, .e (qC b m))] [] 0 trivial ?_
 refine AW.seq ?_
 rcases kb3 (dA a) with hx1 | hx1
 ·rcases kb3 (dA b) with hx2 | hx2
  ·refine kT [.no, .call [] (bV true) [] 0 [] none, .no, .no, .no, .call [] (bV true) [] 0 [] none, .no, .no] ((Fun 60 [.c (.d (D.sl (kV a) n))] (kH []) 0 (bV true) (kH []) 0) ∧ (Fun 60 [.c (.d (D.sl (kV b) m))] (kH []) 0 (bV true) (kH []) 0)) [(0, .e (qC a n)), (1, .e (qC b m)), (20, bV false)] ⟨(by have h0 := (aC a n zo zo (qJ : BsW a)); rw [hx1] at h0; exact h0), (by have h0 := (aC b m zo zo (qJ : BsW b)); rw [hx2] at h0; exact h0)⟩ ?_
   refine yA ?_
   refine kT [.no] True [(0, .e (qC a n)), (1, .e (qC b m)), (6, nV)] trivial ?_
   refine AW.seq ?_
   refine kT [.no, .no, .no] True [(1, .e (qC b m)), (6, nV), (21, .e (qC a n)), (22, uV n), (23, iV 0)] trivial ?_
   refine AW.block ?_
   refine AW.adoptS 6 4 63 rfl ?_
   refine qH 0 hcx (fun (x : {x : Nat × Nat × List Bx // match x with | (i, q, o) => (i ≤ n) ∧ (CI a b i o) ∧ (ka0 o = q ∧ q ≤ 64) ∧ (BsW o)}) => match x with | ⟨(i, q, o), _⟩ => (⟨[(1, .e (qC b m)), (6, oV 1 0 q 4), (21, .e (qC a n)), (22, uV n), (23, uV i)], [(1, some (63, .ds (kV o)))], 2⟩ : ES)) (fun x => match x with | ⟨(i, q, o), _⟩ => n - i) ⟨((0 : Nat), (0 : Nat), (([] : List Bx) : List Bx)), ⟨yH, CI.zero a b, ⟨rfl, by omega⟩, BsW.nil⟩⟩ [(1, 0)] (P := (kN (kV b)) ∧ (kJ m) ∧ (kJ 0) ∧ (kJ 0) ∧ (kN (kV a)) ∧ (kJ n) ∧ (kS (n : Int)) ∧ (kS 0) ∧ (((kV ([] : List Bx)) : List D) = ([] : List D))) zk ⟨rfl, rfl, rfl, rfl, rfl, rfl, rfl, rfl, (by first | rfl | with_reducible assumption)⟩ ?_
   rintro ⟨⟨i, q, o⟩, hinv0⟩
   obtain ⟨hi, hI, hq, hO⟩ : (i ≤ n) ∧ (CI a b i o) ∧ (ka0 o = q ∧ q ≤ 64) ∧ (BsW o) := hinv0
   refine uL (l := [(1, .e (qC b m)), (6, oV 1 0 q 4), (21, .e (qC a n)), (22, uV n), (23, uV i)]) (g := [(1, some (63, .ds (kV o)))]) (nx := 2) rfl rfl rfl ?_
   by_cases hx3 : (((i : Nat) : Int) < ((n : Nat) : Int))
   ·refine kK [.b true] (((i : Int) < (n : Int))) [(1, .e (qC b m)), (6, oV 1 0 q 4), (21, .e (qC a n)), (22, uV n), (23, uV i), (24, bV true)] [(1, some (63, .ds (kV o)))] 2 zo ?_
    refine AW.seq ?_
    refine vR ?_
    refine AW.seq ?_
    refine AW.block ?_
    obtain ⟨hx4, hx5, hx6, hx7, hx8⟩ := BsW.at (qJ : BsW a) (i)
    refine kK [.n i, .ds (y3 a i), .no, .no] ((kS (i : Int)) ∧ (i < n) ∧ (ka5 4 (ka3 (i * 4) (kV a)) = (y3 a i)) ∧ (((y3 a i) : List D).length = 4)) [(1, .e (qC b m)), (6, oV 1 0 q 4), (8, rV 2 0), (21, .e (qC a n)), (22, uV n), (23, uV i)] [(1, some (63, .ds (kV o))), (2, some (63, (a7 a i)))] 3 ⟨rfl, zo, (vQ bI), rfl⟩ ?_
    refine kT [.no, .no, .no] True [(1, .e (qC b m)), (6, oV 1 0 q 4), (8, rV 2 0), (21, .e (qC a n)), (22, uV n), (23, uV i), (27, .e (qC b m)), (28, uV m), (29, iV 0)] trivial ?_
    refine AW.block ?_
    refine qH 0 hcx (fun (x : {x : Nat × Nat × List Bx // match x with | (j, p, x) => (j ≤ m) ∧ (CJ2 a b i j x) ∧ (ka0 x = p ∧ p ≤ 64) ∧ (BsW x)}) => match x with | ⟨(j, p, x), _⟩ => (⟨[(1, .e (qC b m)), (6, oV 3 0 p 4), (8, rV 2 0), (21, .e (qC a n)), (22, uV n), (23, uV i), (27, .e (qC b m)), (28, uV m), (29, uV j)], [(3, some (63, .ds (kV x))), (2, some (63, (a7 a i)))], 4⟩ : ES)) (fun x => match x with | ⟨(j, p, x), _⟩ => m - j) ⟨((0 : Nat), (q : Nat), (o : List Bx)), ⟨yH, hI.in, (by first | assumption | omega), hO⟩⟩ [(3, 1)] (P := (kN (kV b)) ∧ (kJ m) ∧ (kJ 0) ∧ (kJ q) ∧ (kJ 0) ∧ (kN (kV a)) ∧ (kJ n) ∧ (kS (n : Int)) ∧ (kS (i : Int)) ∧ (kN (kV b)) ∧ (kJ m) ∧ (kS (m : Int)) ∧ (kS 0) ∧ (kN (kV o)) ∧ (kN (y3 a i))) zk ⟨rfl, rfl, rfl, rfl, rfl, rfl, rfl, rfl, rfl, rfl, rfl, rfl, rfl, rfl, rfl⟩ ?_
    rintro ⟨⟨j, p, x⟩, hinv1⟩
    obtain ⟨hj, hJ, hp, hX⟩ : (j ≤ m) ∧ (CJ2 a b i j x) ∧ (ka0 x = p ∧ p ≤ 64) ∧ (BsW x) := hinv1
    refine uL (l := [(1, .e (qC b m)), (6, oV 3 0 p 4), (8, rV 2 0), (21, .e (qC a n)), (22, uV n), (23, uV i), (27, .e (qC b m)), (28, uV m), (29, uV j)]) (g := [(3, some (63, .ds (kV x))), (2, some (63, (a7 a i)))]) (nx := 4) rfl rfl rfl ?_
    by_cases hx9 : (((j : Nat) : Int) < ((m : Nat) : Int))
    ·refine kK [.b true] (((j : Int) < (m : Int))) [(1, .e (qC b m)), (6, oV 3 0 p 4), (8, rV 2 0), (21, .e (qC a n)), (22, uV n), (23, uV i), (27, .e (qC b m)), (28, uV m), (29, uV j), (30, bV true)] [(2, some (63, (a7 a i))), (3, some (63, .ds (kV x)))] 4 zo ?_
     refine AW.seq ?_
     refine vR ?_
     refine AW.seq ?_
     refine AW.block ?_
     obtain ⟨hx10, hx11, hx12, hx13, hx14⟩ := BsW.at (qJ : BsW b) (j)
     refine kK [.n j, .ds (y3 b j), .no, .no] ((kS (j : Int)) ∧ (j < m) ∧ (ka5 4 (ka3 (j * 4) (kV b)) = (y3 b j)) ∧ (((y3 b j) : List D).length = 4)) [(1, .e (qC b m)), (6, oV 3 0 p 4), (8, rV 2 0), (10, rV 4 0), (21, .e (qC a n)), (22, uV n), (23, uV i), (27, .e (qC b m)), (28, uV m), (29, uV j)] [(2, some (63, (a7 a i))), (3, some (63, .ds (kV x))), (4, some (63, .ds (y3 b j)))] 5 ⟨rfl, zo, (vQ bI), rfl⟩ ?_
     rcases kb3 (xsB (qG a i) (qA a i) (qG b j) (qA b j) (qF a i) (k9 a i) (qF b j) (k9 b j)) with hx15 | hx15
     ·have hx16 : ((ka0 (qS a i b j)) ≤ (ka0 (kX a i))) := cX (kX a i) (kX b j) (ka0 (kX a i))
      have hx17 : ((ka0 (yC a i b j)) = ((u5 a i b j) * 2)) := yI _ _
      have hx18 : ((u5 a i b j) ≤ 64) := aJ _ _
      have hx19 : ((ka0 (yB a i b j)) = ((u1 a i b j) * 2)) := yI _ _
      have hx20 : ((u1 a i b j) ≤ 64) := aJ _ _
      have hx21 : (MsW (qS a i b j)) := rC ((BsW.ms (qJ : BsW a) _)) _ _
      refine kK (.no :: .no :: .call [] (.tup [.agg [iC (qV (kU a i) (kU b j)), .d (dl (yC a i b j) (u5 a i b j)), .d (D.sl (kL (qS a i b j)) (ka0 (qS a i b j))), .d (dl (yB a i b j) (u1 a i b j))], .c (.d (D.lit (.bool true)))]) [] 0 [] none :: qN 6 []) (Fun 134 [(oW a i), (oW b j)] (kH []) 0 (.tup [.agg [iC (qV (kU a i) (kU b j)), .d (dl (yC a i b j) (u5 a i b j)), .d (D.sl (kL (qS a i b j)) (ka0 (qS a i b j))), .d (dl (yB a i b j) (u1 a i b j))], .c (.d (D.lit (.bool true)))]) (kH []) 0) [(1, .e (qC b m)), (6, oV 3 0 p 4), (8, rV 2 0), (11, rV 5 0), (12, bV true), (21, .e (qC a n)), (22, uV n), (23, uV i), (27, .e (qC b m)), (28, uV m), (29, uV j)] [(2, some (63, (a7 a i))), (3, some (63, .ds (kV x))), (5, some (63, (k1v a i b j)))] 6 (by have h0 := (k3l (kU a i) (qG a i) (qA a i) (kX a i) (ka0 (kX a i)) (qF a i) (k9 a i) (kU b j) (qG b j) (qA b j) (kX b j) (ka0 (kX b j)) (qF b j) (k9 b j) kO kO rfl kO kO kO (BsW.ms (qJ : BsW a) _) kO kO rfl kO kO kO (BsW.ms (qJ : BsW b) _)); rw [hx15] at h0; exact h0) ?_
      refine AW.seq ?_
      rcases kb3 (gO (qV (kU a i) (kU b j)) (yC a i b j) (u5 a i b j) (qS a i b j) (yB a i b j) (u1 a i b j)) with hx22 | hx22
      ·refine kT [.no, .call [] (bV true) [] 0 [] none, .no] (Fun 92 [.agg [iC (qV (kU a i) (kU b j)), .d (dl (yC a i b j) (u5 a i b j)), .d (D.sl (kL (qS a i b j)) (ka0 (qS a i b j))), .d (dl (yB a i b j) (u1 a i b j))]] (kH []) 0 (bV true) (kH []) 0) [(1, .e (qC b m)), (6, oV 3 0 p 4), (8, rV 2 0), (11, rV 5 0), (12, bV true), (21, .e (qC a n)), (22, uV n), (23, uV i), (27, .e (qC b m)), (28, uV m), (29, uV j), (41, bV false)] (by have h0 := (lR (qV (kU a i) (kU b j)) (yC a i b j) (u5 a i b j) (qS a i b j) (ka0 (qS a i b j)) (yB a i b j) (u1 a i b j) kO kO rfl kO kO kO (qJ : MsW (qS a i b j))); rw [hx22] at h0; exact h0) ?_
       refine yA ?_
       refine AW.seq ?_
       by_cases hx23 : (((p : Nat) : Int) = 64)
       ·refine kT (qN 5 [.b true, .no]) (((p : Int) = 64)) [(1, .e (qC b m)), (6, oV 3 0 p 4), (8, rV 2 0), (11, rV 5 0), (21, .e (qC a n)), (22, uV n), (23, uV i), (27, .e (qC b m)), (28, uV m), (29, uV j), (48, bV true)] zo ?_
        refine zt ?_
        refine kK [.no, .no] True [(4, nV), (5, iV 3)] [] 6 trivial ?_
        obtain ⟨hz1, hz2⟩ := v0x hx1 hx2 (k76 (i := i) (j := j) zo zo (by assumption) (by first | exact .inl (by assumption) | exact .inr (by rw [hJ.1]; omega)))
        refine vN (l' := [(4, qK ([] : List D) 0), (5, iV 3)]) (g' := []) (NlS.cons rfl (.e (.c .nil)) (NlS.cons rfl (.same _) NlS.nil)) NlG.nil ?_
        refine AW.ret ?_
        exact kB (.inr rfl) [] (P := (((kV (yY a b)) : List D) = ([] : List D)) ∧ (((ka0 (yY a b)) : Nat) = 0) ∧ (((fD a b) : Int) = 3)) zk ⟨(by first | rfl | exact hz2 | (rw [hz1]; done) | (rw [hz1]; rfl) | omega), (by first | rfl | exact hz2 | (rw [hz1]; done) | (rw [hz1]; rfl) | omega), (by first | rfl | exact hz2 | (rw [hz1]; done) | (rw [hz1]; rfl) | omega)⟩
       ·refine kT (qN 5 [.b false, .no]) (¬ ((p : Int) = 64)) [(1, .e (qC b m)), (6, oV 3 0 p 4), (8, rV 2 0), (11, rV 5 0), (21, .e (qC a n)), (22, uV n), (23, uV i), (27, .e (qC b m)), (28, uV m), (29, uV j), (48, bV false)] zo ?_
        refine yA ?_
        refine aG [.no, .no, .no, .ap none (p + 1) (kV (x ++ ([(iO a i b j)] : List Bx))), .no] (([iD (qV (kU a i) (kU b j)), dl (yC a i b j) (u5 a i b j), D.sl (kL (qS a i b j)) (ka0 (qS a i b j)), dl (yB a i b j) (u1 a i b j)].length = 1 * 4) ∧ (((kV x) : List D).length = p * 4) ∧ ((p + 1) * 80 ≤ 140737488355328) ∧ (p + 1 = (p + 1)) ∧ (((kV x) : List D) ++ [iD (qV (kU a i) (kU b j)), dl (yC a i b j) (u5 a i b j), D.sl (kL (qS a i b j)) (ka0 (qS a i b j)), dl (yB a i b j) (u1 a i b j)] = (kV (x ++ ([(iO a i b j)] : List Bx))))) [(1, .e (qC b m)), (6, oV 7 0 (p + 1) 4), (8, rV 2 0), (21, .e (qC a n)), (22, uV n), (23, uV i), (27, .e (qC b m)), (28, uV m), (29, uV j)] [(2, some (63, (a7 a i))), (7, some (63, .ds (kV (x ++ ([(iO a i b j)] : List Bx)))))] 8 ⟨vS, vS, zo, zo, (tT x (qV (kU a i) (kU b j)) (yC a i b j) (u5 a i b j) (qS a i b j) (ka0 (qS a i b j)) (yB a i b j) (u1 a i b j) (by first | rfl | omega))⟩ ?_
        refine yT [.w, .no] (yQ ((j : Int) + 1)) [(1, .e (qC b m)), (6, oV 7 0 (p + 1) 4), (8, rV 2 0), (21, .e (qC a n)), (22, uV n), (23, uV i), (27, .e (qC b m)), (28, uV m), (29, iV (↑j + 1))] ⟨by omega, by omega⟩ ?_
        exact qE ⟨(((j + 1) : Nat), ((p + 1) : Nat), ((x ++ ([(iO a i b j)] : List Bx)) : List Bx)), ⟨yH, (by first | exact hJ.n (by assumption) | exact hJ.y (by assumption) (by assumption) zo), mZ, (by first | assumption | exact hX.app (BsW.one (k37 hW _ _)))⟩⟩ [(3, 7)] (P := (kN (kV b)) ∧ (kJ m) ∧ (kJ 0) ∧ (kJ (p + 1)) ∧ (kJ 0) ∧ (kN (kV a)) ∧ (kJ n) ∧ (kS (n : Int)) ∧ (kS (i : Int)) ∧ (kN (kV b)) ∧ (kJ m) ∧ (kS (m : Int)) ∧ (c7 j) ∧ (kN (kV (x ++ ([(iO a i b j)] : List Bx)))) ∧ (kN (y3 a i))) zk ⟨rfl, rfl, rfl, rfl, rfl, rfl, rfl, rfl, rfl, rfl, rfl, rfl, bH, rfl, rfl⟩ (show m - (j + 1) < m - j from vZ)
      ·refine kT [.no, .call [] (bV false) [] 0 [] none, .no] (Fun 92 [.agg [iC (qV (kU a i) (kU b j)), .d (dl (yC a i b j) (u5 a i b j)), .d (D.sl (kL (qS a i b j)) (ka0 (qS a i b j))), .d (dl (yB a i b j) (u1 a i b j))]] (kH []) 0 (bV false) (kH []) 0) [(1, .e (qC b m)), (6, oV 3 0 p 4), (8, rV 2 0), (11, rV 5 0), (12, bV true), (21, .e (qC a n)), (22, uV n), (23, uV i), (27, .e (qC b m)), (28, uV m), (29, uV j), (41, bV true)] (by have h0 := (lR (qV (kU a i) (kU b j)) (yC a i b j) (u5 a i b j) (qS a i b j) (ka0 (qS a i b j)) (yB a i b j) (u1 a i b j) kO kO rfl kO kO kO (qJ : MsW (qS a i b j))); rw [hx22] at h0; exact h0) ?_
       refine zt ?_
       refine AW.exit ?_
       refine aG [.w, .no] (yQ ((j : Int) + 1)) [(1, .e (qC b m)), (6, oV 3 0 p 4), (8, rV 2 0), (21, .e (qC a n)), (22, uV n), (23, uV i), (27, .e (qC b m)), (28, uV m), (29, iV (↑j + 1))] [(2, some (63, (a7 a i))), (3, some (63, .ds (kV x)))] 6 ⟨by omega, by omega⟩ ?_
       exact qE ⟨(((j + 1) : Nat), (p : Nat), (x : List Bx)), ⟨yH, (by first | exact hJ.n (by assumption) | exact hJ.y (by assumption) (by assumption) zo), mZ, (by first | assumption | exact hX.app (BsW.one (k37 hW _ _)))⟩⟩ [] (P := (kN (kV b)) ∧ (kJ m) ∧ (kJ 0) ∧ (kJ p) ∧ (kJ 0) ∧ (kN (kV a)) ∧ (kJ n) ∧ (kS (n : Int)) ∧ (kS (i : Int)) ∧ (kN (kV b)) ∧ (kJ m) ∧ (kS (m : Int)) ∧ (c7 j) ∧ (kN (kV x)) ∧ (kN (y3 a i))) zk ⟨rfl, rfl, rfl, rfl, rfl, rfl, rfl, rfl, rfl, rfl, rfl, rfl, bH, rfl, rfl⟩ (show m - (j + 1) < m - j from vZ)
     ·have hx24 : ((ka0 (qS a i b j)) ≤ (ka0 (kX a i))) := cX (kX a i) (kX b j) (ka0 (kX a i))
      have hx25 : ((ka0 (yC a i b j)) = ((u5 a i b j) * 2)) := yI _ _
      have hx26 : ((u5 a i b j) ≤ 64) := aJ _ _
      have hx27 : ((ka0 (yB a i b j)) = ((u1 a i b j) * 2)) := yI _ _
      have hx28 : ((u1 a i b j) ≤ 64) := aJ _ _
      have hx29 : (MsW (qS a i b j)) := rC ((BsW.ms (qJ : BsW a) _)) _ _
      refine kK (.no :: .no :: .call [] (.tup [.agg [iC (qV (kU a i) (kU b j)), .d (dl (yC a i b j) (u5 a i b j)), .d (D.sl (kL (qS a i b j)) (ka0 (qS a i b j))), .d (dl (yB a i b j) (u1 a i b j))], .c (.d (D.lit (.bool false)))]) [] 0 [] none :: qN 6 []) (Fun 134 [(oW a i), (oW b j)] (kH []) 0 (.tup [.agg [iC (qV (kU a i) (kU b j)), .d (dl (yC a i b j) (u5 a i b j)), .d (D.sl (kL (qS a i b j)) (ka0 (qS a i b j))), .d (dl (yB a i b j) (u1 a i b j))], .c (.d (D.lit (.bool false)))]) (kH []) 0) [(1, .e (qC b m)), (6, oV 3 0 p 4), (8, rV 2 0), (11, rV 5 0), (12, bV false), (21, .e (qC a n)), (22, uV n), (23, uV i), (27, .e (qC b m)), (28, uV m), (29, uV j)] [(2, some (63, (a7 a i))), (3, some (63, .ds (kV x))), (5, some (63, (k1v a i b j)))] 6 (by have h0 := (k3l (kU a i) (qG a i) (qA a i) (kX a i) (ka0 (kX a i)) (qF a i) (k9 a i) (kU b j) (qG b j) (qA b j) (kX b j) (ka0 (kX b j)) (qF b j) (k9 b j) kO kO rfl kO kO kO (BsW.ms (qJ : BsW a) _) kO kO rfl kO kO kO (BsW.ms (qJ : BsW b) _)); rw [hx15] at h0; exact h0) ?_
      refine AW.seq ?_
      rcases kb3 (gO (qV (kU a i) (kU b j)) (yC a i b j) (u5 a i b j) (qS a i b j) (yB a i b j) (u1 a i b j)) with hx30 | hx30
      ·refine kT [.no, .call [] (bV true) [] 0 [] none, .no] (Fun 92 [.agg [iC (qV (kU a i) (kU b j)), .d (dl (yC a i b j) (u5 a i b j)), .d (D.sl (kL (qS a i b j)) (ka0 (qS a i b j))), .d (dl (yB a i b j) (u1 a i b j))]] (kH []) 0 (bV true) (kH []) 0) [(1, .e (qC b m)), (6, oV 3 0 p 4), (8, rV 2 0), (11, rV 5 0), (12, bV false), (21, .e (qC a n)), (22, uV n), (23, uV i), (27, .e (qC b m)), (28, uV m), (29, uV j), (41, bV false)] (by have h0 := (lR (qV (kU a i) (kU b j)) (yC a i b j) (u5 a i b j) (qS a i b j) (ka0 (qS a i b j)) (yB a i b j) (u1 a i b j) kO kO rfl kO kO kO (qJ : MsW (qS a i b j))); rw [hx30] at h0; exact h0) ?_
       refine yA ?_
       refine AW.seq ?_
       refine kT (qN 4 []) True [(1, .e (qC b m)), (6, oV 3 0 p 4), (8, rV 2 0), (11, rV 5 0), (21, .e (qC a n)), (22, uV n), (23, uV i), (27, .e (qC b m)), (28, uV m), (29, uV j), (48, bV true)] trivial ?_
       refine zt ?_
       refine kK [.no, .no] True [(4, nV), (5, iV 3)] [] 6 trivial ?_
       obtain ⟨hz1, hz2⟩ := v0x hx1 hx2 (k76 (i := i) (j := j) zo zo (by assumption) (by first | exact .inl (by assumption) | exact .inr (by rw [hJ.1]; omega)))
       refine vN (l' := [(4, qK ([] : List D) 0), (5, iV 3)]) (g' := []) (NlS.cons rfl (.e (.c .nil)) (NlS.cons rfl (.same _) NlS.nil)) NlG.nil ?_
       refine AW.ret ?_
       exact kB (.inr rfl) [] (P := (((kV (yY a b)) : List D) = ([] : List D)) ∧ (((ka0 (yY a b)) : Nat) = 0) ∧ (((fD a b) : Int) = 3)) zk ⟨(by first | rfl | exact hz2 | (rw [hz1]; done) | (rw [hz1]; rfl) | omega), (by first | rfl | exact hz2 | (rw [hz1]; done) | (rw [hz1]; rfl) | omega), (by first | rfl | exact hz2 | (rw [hz1]; done) | (rw [hz1]; rfl) | omega)⟩
      ·refine kT [.no, .call [] (bV false) [] 0 [] none, .no] (Fun 92 [.agg [iC (qV (kU a i) (kU b j)), .d (dl (yC a i b j) (u5 a i b j)), .d (D.sl (kL (qS a i b j)) (ka0 (qS a i b j))), .d (dl (yB a i b j) (u1 a i b j))]] (kH []) 0 (bV false) (kH []) 0) [(1, .e (qC b m)), (6, oV 3 0 p 4), (8, rV 2 0), (11, rV 5 0), (12, bV false), (21, .e (qC a n)), (22, uV n), (23, uV i), (27, .e (qC b m)), (28, uV m), (29, uV j), (41, bV true)] (by have h0 := (lR (qV (kU a i) (kU b j)) (yC a i b j) (u5 a i b j) (qS a i b j) (ka0 (qS a i b j)) (yB a i b j) (u1 a i b j) kO kO rfl kO kO kO (qJ : MsW (qS a i b j))); rw [hx30] at h0; exact h0) ?_
       refine zt ?_
       refine AW.exit ?_
       refine aG [.w, .no] (yQ ((j : Int) + 1)) [(1, .e (qC b m)), (6, oV 3 0 p 4), (8, rV 2 0), (21, .e (qC a n)), (22, uV n), (23, uV i), (27, .e (qC b m)), (28, uV m), (29, iV (↑j + 1))] [(2, some (63, (a7 a i))), (3, some (63, .ds (kV x)))] 6 ⟨by omega, by omega⟩ ?_
       exact qE ⟨(((j + 1) : Nat), (p : Nat), (x : List Bx)), ⟨yH, (by first | exact hJ.n (by assumption) | exact hJ.y (by assumption) (by assumption) zo), mZ, (by first | assumption | exact hX.app (BsW.one (k37 hW _ _)))⟩⟩ [] (P := (kN (kV b)) ∧ (kJ m) ∧ (kJ 0) ∧ (kJ p) ∧ (kJ 0) ∧ (kN (kV a)) ∧ (kJ n) ∧ (kS (n : Int)) ∧ (kS (i : Int)) ∧ (kN (kV b)) ∧ (kJ m) ∧ (kS (m : Int)) ∧ (c7 j) ∧ (kN (kV x)) ∧ (kN (y3 a i))) zk ⟨rfl, rfl, rfl, rfl, rfl, rfl, rfl, rfl, rfl, rfl, rfl, rfl, bH, rfl, rfl⟩ (show m - (j + 1) < m - j from vZ)
    ·refine kK [.b false] (¬ ((j : Int) < (m : Int))) [(1, .e (qC b m)), (6, oV 3 0 p 4), (8, rV 2 0), (21, .e (qC a n)), (22, uV n), (23, uV i), (27, .e (qC b m)), (28, uV m), (29, uV j), (30, bV false)] [(2, some (63, (a7 a i))), (3, some (63, .ds (kV x)))] 4 zo ?_
     refine AW.seq ?_
     refine zf ?_
     refine AW.exit ?_
     refine aG [.w, .no] (yQ ((i : Int) + 1)) [(1, .e (qC b m)), (6, oV 3 0 p 4), (21, .e (qC a n)), (22, uV n), (23, iV (↑i + 1))] [(3, some (63, .ds (kV x)))] 4 ⟨by omega, by omega⟩ ?_
     exact qE ⟨(((i + 1) : Nat), (p : Nat), (x : List Bx)), ⟨yH, (hJ.out zo), (by first | assumption | omega), (by assumption)⟩⟩ [(1, 3)] (P := (kN (kV b)) ∧ (kJ m) ∧ (kJ 0) ∧ (kJ p) ∧ (kN (kV a)) ∧ (kJ n) ∧ (kS (n : Int)) ∧ (c7 i) ∧ (kN (kV x))) zk ⟨rfl, rfl, rfl, rfl, rfl, rfl, rfl, bH, rfl⟩ (show n - (i + 1) < n - i from vZ)
   ·refine kK [.b false] (¬ ((i : Int) < (n : Int))) [(1, .e (qC b m)), (6, oV 1 0 q 4), (21, .e (qC a n)), (22, uV n), (23, uV i), (24, bV false)] [(1, some (63, .ds (kV o)))] 2 zo ?_
    refine AW.seq ?_
    refine zf ?_
    refine AW.exit ?_
    refine AW.freeze 1 (l' := [(1, .e (qC b m)), (6, .e (qC o q)), (21, .e (qC a n)), (22, uV n), (23, uV i), (24, bV false)]) (g' := []) rfl (FzS.cons rfl (.same _) (FzS.cons rfl (.e (.c (@FzC.own 1 ((kV o) : List D) 0 q 4 true ((kV o) : List D) rR vS))) (FzS.cons rfl (.same _) (FzS.cons rfl (.same _) (FzS.cons rfl (.same _) (FzS.cons rfl (.same _) FzS.nil)))))) FzG.nil ?_
    have hx31 : ((ka0 (bG o)) ≤ q) := (ke0 (nP o) (Nat.le_of_eq (zo)))
    have hx32 : (((0 : Int) ≤ (jR o)) ∧ ((jR o) ≤ 1)) := iT o
    refine kK (.no :: .call [] (.tup [.c (.d (D.sl (kV (bG o)) (ka0 (bG o)))), iE (jR o)]) [] 0 [] none :: qN 4 []) _ [(4, .e (vA (bG o))), (5, iV (jR o))] [] 2 (u0f o q zo zo (qJ : BsW o)) ?_
    obtain ⟨hz1, hz2⟩ := u70 hx1 hx2 hI zo
    refine AW.ret ?_
    exact kB (.inr rfl) [] (P := (((kV (yY a b)) : List D) = (kV (bG o))) ∧ (((ka0 (yY a b)) : Nat) = (ka0 (bG o))) ∧ (((fD a b) : Int) = (jR o))) zk ⟨(by first | rfl | exact hz2 | (rw [hz1]; done) | (rw [hz1]; rfl) | omega), (by first | rfl | exact hz2 | (rw [hz1]; done) | (rw [hz1]; rfl) | omega), (by first | rfl | exact hz2 | (rw [hz1]; done) | (rw [hz1]; rfl) | omega)⟩
  ·refine kT [.no, .call [] (bV true) [] 0 [] none, .no, .no, .no, .call [] (bV false) [] 0 [] none, .no, .no] ((Fun 60 [.c (.d (D.sl (kV a) n))] (kH []) 0 (bV true) (kH []) 0) ∧ (Fun 60 [.c (.d (D.sl (kV b) m))] (kH []) 0 (bV false) (kH []) 0)) [(0, .e (qC a n)), (1, .e (qC b m)), (20, bV true)] ⟨(by have h0 := (aC a n zo zo (qJ : BsW a)); rw [hx1] at h0; exact h0), (by have h0 := (aC b m zo zo (qJ : BsW b)); rw [hx2] at h0; exact h0)⟩ ?_
   refine zt ?_
   refine kT [.no, .no] True [(4, nV), (5, iV 1)] trivial ?_
   obtain ⟨hz1, hz2⟩ := v3z hx2
   refine vN (l' := [(4, qK ([] : List D) 0), (5, iV 1)]) (g' := []) (NlS.cons rfl (.e (.c .nil)) (NlS.cons rfl (.same _) NlS.nil)) NlG.nil ?_
   refine AW.ret ?_
   exact kB (.inr rfl) [] (P := (((kV (yY a b)) : List D) = ([] : List D)) ∧ (((ka0 (yY a b)) : Nat) = 0) ∧ (((fD a b) : Int) = 1)) zk ⟨(by first | rfl | exact hz2 | (rw [hz1]; done) | (rw [hz1]; rfl) | omega), (by first | rfl | exact hz2 | (rw [hz1]; done) | (rw [hz1]; rfl) | omega), (by first | rfl | exact hz2 | (rw [hz1]; done) | (rw [hz1]; rfl) | omega)⟩
 ·refine kT [.no, .call [] (bV false) [] 0 [] none, .no, .no, .no] (Fun 60 [.c (.d (D.sl (kV a) n))] (kH []) 0 (bV false) (kH []) 0) [(0, .e (qC a n)), (1, .e (qC b m)), (20, bV true)] (by have h0 := (aC a n zo zo (qJ : BsW a)); rw [hx1] at h0; exact h0) ?_
  refine zt ?_
  refine kT [.no, .no] True [(4, nV), (5, iV 1)] trivial ?_
  obtain ⟨hz1, hz2⟩ := v40 hx1
  refine vN (l' := [(4, qK ([] : List D) 0), (5, iV 1)]) (g' := []) (NlS.cons rfl (.e (.c .nil)) (NlS.cons rfl (.same _) NlS.nil)) NlG.nil ?_
  refine AW.ret ?_
  exact kB (.inr rfl) [] (P := (((kV (yY a b)) : List D) = ([] : List D)) ∧ (((ka0 (yY a b)) : Nat) = 0) ∧ (((fD a b) : Int) = 1)) zk ⟨(by first | rfl | exact hz2 | (rw [hz1]; done) | (rw [hz1]; rfl) | omega), (by first | rfl | exact hz2 | (rw [hz1]; done) | (rw [hz1]; rfl) | omega), (by first | rfl | exact hz2 | (rw [hz1]; done) | (rw [hz1]; rfl) | omega)⟩
end Go.Proofs.YtbicifcgghmhaaaGreat
