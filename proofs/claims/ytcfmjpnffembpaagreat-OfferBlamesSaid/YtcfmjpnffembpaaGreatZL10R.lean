/- Reduced lists, intersections. No statement is proved here. -/
import Derived.Test.YtcfmjpnffembpaaGreatZL10Q
import Derived.Test.YtcfmjpnffembpaaGreatZL10G
namespace Go.Proofs.YtcfmjpnffembpaaGreat
open Go.ChangeShapes Go.WideShapes Go.ChangeAt Go.RowKit
open Bool renaming and_false → kc7, eq_false_or_eq_true → ka9, false_and → kh2, not_true → kj9, or_true → km3
open List renaming drop → ka3, drop_drop → kf2, drop_zero → kc9, getD → ka1, getD_eq_getElem?_getD → ka7, getElem?_eq_getElem → ka8, length → ka0, length_append → ka6, length_cons → kb0, length_drop → kb3, length_map → kc5, length_nil → kb1, length_replicate → kb4, length_reverse → kc0, length_set → kb8, length_take → kb2, take → ka5, take_of_length_le → kb7
open Nat renaming le_of_ble_eq_true → ka4, le_trans → ke2, mul_one → kc6, zero_le → ke0
set_option linter.unusedVariables false
set_option linter.unusedSimpArgs false
/-! chapter 10: boxes within boxes; reduced lists; intersections -/
set_option maxHeartbeats 4000000
set_option maxRecDepth 100000
def dM (a b : Int) : Int := qG .andNot .i64 a b
def nhB (ms : List (List Int)) (m : List Int) : Bool := !(gI ms m)
theorem u6c {ms : List (List Int)} {m : List Int} (h : gI ms m = false) : nhB ms m = true := by unfold nhB; rw [h]; rfl
theorem u6d {ms : List (List Int)} {m : List Int} (h : gI ms m = true) : nhB ms m = false := by unfold nhB; rw [h]; rfl
def stK (a b : List (List Int)) : Nat → Int := zB fun j => nhB b (ka1 a j [])
theorem u8m {a b : List (List Int)} {k : Nat} (h : stK a b k = -1) (h2 : nhB b (ka1 a k []) = false) : stK a b (k + 1) = -1 := gZ h h2
theorem u40 {a b : List (List Int)} {k : Nat} (h : stK a b k = -1) (h2 : nhB b (ka1 a k []) = true) {n : Nat} (hn : k < n) : stK a b n = (k : Int) := jK h h2 n hn
def sgB (a b : List (List Int)) : Bool := decide (∃ m ∈ a, m ∉ b)
theorem u8r {a b : List (List Int)} {n : Nat} (hn : a.length = n) (h : 0 ≤ stK a b n) : sgB a b = true := by
 obtain ⟨k, hk, h1⟩ := k0k h
 have hk : k < a.length := by omega
 refine decide_eq_true ⟨a[k], List.getElem_mem hk, fun e => ?_⟩
 have e2 : ka1 a k [] = a[k] := by rw [ka7, ka8 hk]; rfl
 have h1 : nhB b (ka1 a k []) = true := h1
 rw [e2, u6d (decide_eq_true e)] at h1; cases h1
theorem u8s {a b : List (List Int)} {n : Nat} (hn : a.length = n) (h : ¬ 0 ≤ stK a b n) : sgB a b = false := by
 refine decide_eq_false fun ⟨m, hm, e⟩ => ?_
 obtain ⟨k, hk, rfl⟩ := List.mem_iff_getElem.1 hm
 have h1 := pJ h k (by omega)
 have e2 : ka1 a k [] = a[k] := by rw [ka7, ka8 hk]; rfl
 have h1 : nhB b (ka1 a k []) = false := h1
 rw [e2, u6c (decide_eq_false e)] at h1; cases h1
def rK (k : Int) (r : List Int) (rn : Nat) (m : List (List Int)) (s : List Int) (sn : Nat) (k2 : Int) (r2 : List Int) (rn2 : Nat) (m2 : List (List Int)) (s2 : List Int) (sn2 : Nat) : Bool := decide (dM k k2 = 0) && (inB (kC r rn) (kC r2 rn2) && (!(sgB m m2) && inB (kC s sn) (kC s2 sn2)))
theorem v2c {k : Int} {r : List Int} {rn : Nat} {m : List (List Int)} {s : List Int} {sn : Nat} {k2 : Int} {r2 : List Int} {rn2 : Nat} {m2 : List (List Int)} {s2 : List Int} {sn2 : Nat} (h1 : dM k k2 = 0) (h2 : inB (kC r rn) (kC r2 rn2) = true) (h3 : sgB m m2 = false) (h4 : inB (kC s sn) (kC s2 sn2) = true) : rK k r rn m s sn k2 r2 rn2 m2 s2 sn2 = true := by
 unfold rK; rw [decide_eq_true h1, h2, h3, h4]; rfl
theorem v2g {k : Int} {r : List Int} {rn : Nat} {m : List (List Int)} {s : List Int} {sn : Nat} {k2 : Int} {r2 : List Int} {rn2 : Nat} {m2 : List (List Int)} {s2 : List Int} {sn2 : Nat} (h1 : ¬ dM k k2 = 0) : rK k r rn m s sn k2 r2 rn2 m2 s2 sn2 = false := by
 unfold rK; rw [decide_eq_false h1]; rfl
theorem v2e {k : Int} {r : List Int} {rn : Nat} {m : List (List Int)} {s : List Int} {sn : Nat} {k2 : Int} {r2 : List Int} {rn2 : Nat} {m2 : List (List Int)} {s2 : List Int} {sn2 : Nat} (h2 : inB (kC r rn) (kC r2 rn2) = false) : rK k r rn m s sn k2 r2 rn2 m2 s2 sn2 = false := by
 unfold rK; rw [h2, kh2, kc7]
theorem v2f {k : Int} {r : List Int} {rn : Nat} {m : List (List Int)} {s : List Int} {sn : Nat} {k2 : Int} {r2 : List Int} {rn2 : Nat} {m2 : List (List Int)} {s2 : List Int} {sn2 : Nat} (h3 : sgB m m2 = true) : rK k r rn m s sn k2 r2 rn2 m2 s2 sn2 = false := by
 unfold rK; rw [h3, kj9, kh2, kc7, kc7]
theorem v2d {k : Int} {r : List Int} {rn : Nat} {m : List (List Int)} {s : List Int} {sn : Nat} {k2 : Int} {r2 : List Int} {rn2 : Nat} {m2 : List (List Int)} {s2 : List Int} {sn2 : Nat} (h4 : inB (kC s sn) (kC s2 sn2) = false) : rK k r rn m s sn k2 r2 rn2 m2 s2 sn2 = false := by
 unfold rK; rw [h4, kc7, kc7, kc7]
def niE (xs : List Bx) (i : Nat) (ys : List Bx) (j : Nat) : Bool := rK (kQ xs i) (kZ xs i) (kX xs i) (kL xs i) (qA xs i) (k8 xs i) (kQ ys j) (kZ ys j) (kX ys j) (kL ys j) (qA ys j) (k8 ys j)
def rC (xs : List Bx) (i j : Nat) : Bool := decide (j ≠ i) && (niE xs i xs j && (decide (j < i) || !(niE xs j xs i)))
def goB (xs : List Bx) (i : Nat) : Bool := decide (∃ j, j < xs.length ∧ rC xs i j = true)
theorem u6y {xs : List Bx} {i j : Nat} (hj : j < xs.length) (h : rC xs i j = true) : goB xs i = true := decide_eq_true ⟨j, hj, h⟩
theorem k8h {xs : List Bx} {i : Nat} (h : ∀ j, j < xs.length → rC xs i j = false) : goB xs i = false := decide_eq_false fun ⟨j, hj, e⟩ => by
 have := h j hj; rw [this] at e; cases e
theorem v2s {xs : List Bx} {i j : Nat} (h0 : ¬ j = i) (h1 : niE xs i xs j = true) (h2 : j < i) : rC xs i j = true := by
 unfold rC; rw [decide_eq_true h0, h1, decide_eq_true h2]; rfl
theorem v2r {xs : List Bx} {i j : Nat} (h0 : ¬ j = i) (h1 : niE xs i xs j = true) (h2 : niE xs j xs i = false) : rC xs i j = true := by
 unfold rC; rw [decide_eq_true h0, h1, h2, Bool.not_false, km3]; rfl
theorem k57 {xs : List Bx} {i j : Nat} (h0 : j = i) : rC xs i j = false := by
 unfold rC; rw [decide_eq_false (fun e => e h0)]; rfl
theorem u72 {xs : List Bx} {i j : Nat} (h1 : niE xs i xs j = false) : rC xs i j = false := by
 unfold rC; rw [h1, kh2, kc7]
theorem u73 {xs : List Bx} {i j : Nat} (h1 : niE xs j xs i = true) (h2 : ¬ j < i) : rC xs i j = false := by
 unfold rC; rw [h1, decide_eq_false h2, kj9, Bool.or_false, kc7, kc7]
def bxP (xs : List Bx) (i : Nat) : Bx := u7 (kQ xs i) (kZ xs i) (kX xs i) (kL xs i) (qA xs i) (k8 xs i)
def x4 (xs : List Bx) : Nat → List Bx
 | 0 => []
 | i + 1 => if goB xs i = true then x4 xs i else x4 xs i ++ [bxP xs i]
theorem u8w {xs o : List Bx} {i : Nat} (h : x4 xs i = o) (h1 : goB xs i = true) : x4 xs (i + 1) = o := by subst h; exact if_pos h1
theorem u8x {xs o : List Bx} {i : Nat} (h : x4 xs i = o) (h1 : goB xs i = false) : x4 xs (i + 1) = o ++ [u7 (kQ xs i) (kZ xs i) (kX xs i) (kL xs i) (qA xs i) (k8 xs i)] := by subst h; exact if_neg (by rw [h1]; decide)
def b7 (xs : List Bx) : List Bx := if cQ xs = true then x4 xs xs.length else []
def sB (xs : List Bx) : Int := if cQ xs = true then 0 else 1
theorem k6l {xs : List Bx} (h : cQ xs = true) : b7 xs = x4 xs xs.length ∧ sB xs = 0 := ⟨if_pos h, if_pos h⟩
theorem u91 {xs : List Bx} (h : cQ xs = false) : b7 xs = [] ∧ sB xs = 1 := ⟨if_neg (by rw [h]; decide), if_neg (by rw [h]; decide)⟩
theorem k1t (xs : List Bx) : ∀ i, ka0 (x4 xs i) ≤ i
 | 0 => Nat.le_refl _
 | i + 1 => by
  have := k1t xs i
  rw [x4]; split
  ·omega
  ·rw [ka6, List.length_singleton]; omega
theorem u5z (xs : List Bx) : ka0 (b7 xs) ≤ ka0 xs := by unfold b7; split; exact k1t xs _; exact ke0 _
theorem k39 (xs : List Bx) : 0 ≤ sB xs ∧ sB xs ≤ 1 := by unfold sB; split <;> decide
def jO (l : List Int) (v : Int) : Nat → List Int
 | 0 => []
 | k + 1 => if v < ka1 l (k * 2 + 1) 0 then jO l v k ++ [max (ka1 l (k * 2) 0) (v + 1), ka1 l (k * 2 + 1) 0] else jO l v k
def oF (l : List Int) (v : Int) (k : Nat) : Nat := (jO l v k).length / 2
theorem v14 {l o : List Int} {v x y : Int} {k : Nat} (h : jO l v k = o) (h1 : v < ka1 l (k * 2 + 1) 0) (hx : x = max (ka1 l (k * 2) 0) (v + 1)) (hy : y = ka1 l (k * 2 + 1) 0) : jO l v (k + 1) = o ++ [x, y] := by subst h; rw [hx, hy]; exact if_pos h1
theorem v15 {l o : List Int} {v : Int} {k : Nat} (h : jO l v k = o) (h1 : ¬ v < ka1 l (k * 2 + 1) 0) : jO l v (k + 1) = o := by subst h; exact if_neg h1
theorem u0j (l : List Int) (v : Int) (k : Nat) : ka0 (jO l v k) = oF l v k * 2 ∧ oF l v k ≤ k := by
 have h : ∃ j, j ≤ k ∧ ka0 (jO l v k) = j * 2 := by
  induction k with
  | zero => exact ⟨0, Nat.le_refl _, rfl⟩
  | succ k ih =>
   obtain ⟨j, hj, e⟩ := ih
   rw [jO]; split
   ·exact ⟨j + 1, by omega, by rw [ka6, e]; simp only [kb0, kb1]; omega⟩
   ·exact ⟨j, by omega, e⟩
 obtain ⟨j, hj, e⟩ := h
 unfold oF; omega
def sM (r : List Int) (rn : Nat) (r2 : List Int) (rn2 : Nat) : Bool := decide (qM (kC r rn) (kC r2 rn2) < 64) || decide (qM (kC (jO r (ka1 (uM (kC r rn) (kC r2 rn2)) 127 0) rn) (oF r (ka1 (uM (kC r rn) (kC r2 rn2)) 127 0) rn)) (kC r2 rn2) = 0)
theorem v01 {r : List Int} {rn : Nat} {r2 : List Int} {rn2 : Nat} (h : qM (kC r rn) (kC r2 rn2) < 64) : sM r rn r2 rn2 = true := by unfold sM; rw [decide_eq_true h]; rfl
theorem v2h {r : List Int} {rn : Nat} {r2 : List Int} {rn2 : Nat} (h : qM (kC (jO r (ka1 (uM (kC r rn) (kC r2 rn2)) 127 0) rn) (oF r (ka1 (uM (kC r rn) (kC r2 rn2)) 127 0) rn)) (kC r2 rn2) = 0) : sM r rn r2 rn2 = true := by unfold sM; rw [decide_eq_true h, km3]
theorem v2i {r : List Int} {rn : Nat} {r2 : List Int} {rn2 : Nat} (h1 : ¬ qM (kC r rn) (kC r2 rn2) < 64) (h : ¬ qM (kC (jO r (ka1 (uM (kC r rn) (kC r2 rn2)) 127 0) rn) (oF r (ka1 (uM (kC r rn) (kC r2 rn2)) 127 0) rn)) (kC r2 rn2) = 0) : sM r rn r2 rn2 = false := by unfold sM; rw [decide_eq_false h, decide_eq_false h1]; rfl
theorem k0e {a b : List Int} {n m : Nat} (ha : a.length = n * 2) (hb : b.length = m * 2) : cY (uF (uM (kC a n) (kC b m))) := by
 unfold uM; rw [o4]
 have h := u4c (uG ha) (uG hb)
 have e := List.take_append_drop 64 (fD (uF (kC a n)) (uF (kC b m)))
 generalize ka5 64 (fD (uF (kC a n)) (uF (kC b m))) = t at *
 generalize ka3 64 (fD (uF (kC a n)) (uF (kC b m))) = d at *
 rw [← e] at h
 clear e
 induction t with
 | nil => trivial
 | cons p t ih => exact ⟨h.1, fun q hq => h.2.1 q (List.mem_append_left _ hq), ih h.2.2⟩
theorem v0b {a b : List Int} {n m : Nat} (ha : a.length = n * 2) (hb : b.length = m * 2) (h : 64 ≤ qM (kC a n) (kC b m)) : 0 ≤ ka1 (uM (kC a n) (kC b m)) 127 0 ∧ ka1 (uM (kC a n) (kC b m)) 127 0 ≤ 2147483647 := by
 have h1 := gE (k0e ha hb) _ ((yF (uR (kC a n) (kC b m))).2 ⟨63, by omega, rfl⟩)
 unfold fK at h1
 have h1 : 0 ≤ ka1 (uM (kC a n) (kC b m)) 126 0 ∧ ka1 (uM (kC a n) (kC b m)) 126 0 ≤ ka1 (uM (kC a n) (kC b m)) 127 0 ∧ ka1 (uM (kC a n) (kC b m)) 127 0 ≤ 2147483647 := h1
 omega
def xsB (r : List Int) (rn : Nat) (r2 : List Int) (rn2 : Nat) (s : List Int) (sn : Nat) (s2 : List Int) (sn2 : Nat) : Bool := sM r rn r2 rn2 && sM s sn s2 sn2
theorem u8h {r : List Int} {rn : Nat} {r2 : List Int} {rn2 : Nat} {s : List Int} {sn : Nat} {s2 : List Int} {sn2 : Nat} (h1 : sM r rn r2 rn2 = true) (h2 : sM s sn s2 sn2 = true) : xsB r rn r2 rn2 s sn s2 sn2 = true := by unfold xsB; rw [h1, h2]; rfl
theorem v1s {r : List Int} {rn : Nat} {r2 : List Int} {rn2 : Nat} {s : List Int} {sn : Nat} {s2 : List Int} {sn2 : Nat} (h1 : sM r rn r2 rn2 = false) : xsB r rn r2 rn2 s sn s2 sn2 = false := by unfold xsB; rw [h1]; rfl
theorem v1r {r : List Int} {rn : Nat} {r2 : List Int} {rn2 : Nat} {s : List Int} {sn : Nat} {s2 : List Int} {sn2 : Nat} (h2 : sM s sn s2 sn2 = false) : xsB r rn r2 rn2 s sn s2 sn2 = false := by unfold xsB; rw [h2, kc7]
/-! the boxes made of each box of one list with each box of another one -/
def crB (xs ys : List Bx) (i j : Nat) : Bx := u7 (qK (kQ xs i) (kQ ys j)) (uM (kC (kZ xs i) (kX xs i)) (kC (kZ ys j) (kX ys j))) (qM (kC (kZ xs i) (kX xs i)) (kC (kZ ys j) (kX ys j))) (uJ (kL xs i) (kL ys j) (ka0 (kL xs i))) (uM (kC (qA xs i) (k8 xs i)) (kC (qA ys j) (k8 ys j))) (qM (kC (qA xs i) (k8 xs i)) (kC (qA ys j) (k8 ys j)))
def crV (xs ys : List Bx) (i j : Nat) : Bool := d5 (qK (kQ xs i) (kQ ys j)) (uM (kC (kZ xs i) (kX xs i)) (kC (kZ ys j) (kX ys j))) (qM (kC (kZ xs i) (kX xs i)) (kC (kZ ys j) (kX ys j))) (uJ (kL xs i) (kL ys j) (ka0 (kL xs i))) (uM (kC (qA xs i) (k8 xs i)) (kC (qA ys j) (k8 ys j))) (qM (kC (qA xs i) (k8 xs i)) (kC (qA ys j) (k8 ys j)))
def crS (xs ys : List Bx) (i j : Nat) : Bool := xsB (kZ xs i) (kX xs i) (kZ ys j) (kX ys j) (qA xs i) (k8 xs i) (qA ys j) (k8 ys j)
theorem u06 {xs ys : List Bx} (h : BsW xs) (i j : Nat) : BxW (crB xs ys i j) := by
 refine ⟨uR _ _, uR _ _, ke2 (aO _ _) (by decide), ke2 (aO _ _) (by decide), ?_, nE (h.ms i) _ _⟩
 have h1 := bT (kL xs i) (kL ys j) (ka0 (kL xs i))
 have h2 := h.at i
 show ka0 (uJ _ _ _) ≤ _
 omega
def cjL (xs ys : List Bx) (i : Nat) (o : List Bx) : Nat → List Bx
 | 0 => o
 | j + 1 => if crV xs ys i j = true then cjL xs ys i o j ++ [crB xs ys i j] else cjL xs ys i o j
def zC (xs ys : List Bx) : Nat → List Bx
 | 0 => []
 | i + 1 => cjL xs ys i (zC xs ys i) (ka0 ys)
def ljB (xs ys : List Bx) (i : Nat) (b : Bool) : Nat → Bool
 | 0 => b
 | j + 1 => ljB xs ys i b j && (!(crV xs ys i j) || (crS xs ys i j && decide (ka0 (cjL xs ys i (zC xs ys i) j) ≠ 64)))
def liB (xs ys : List Bx) : Nat → Bool
 | 0 => true
 | i + 1 => ljB xs ys i (liB xs ys i) (ka0 ys)
theorem k3v (xs ys : List Bx) (i : Nat) (b : Bool) (j : Nat) : ∀ k, ljB xs ys i b j = false → ljB xs ys i b (j + k) = false
 | 0, h => h
 | k + 1, h => by
  show (ljB xs ys i b (j + k) && _) = false
  rw [k3v xs ys i b j k h]; rfl
theorem v03 (xs ys : List Bx) (i : Nat) : ∀ k, ljB xs ys i false k = false
 | 0 => rfl
 | k + 1 => by
  show (ljB xs ys i false k && _) = false
  rw [v03 xs ys i k]; rfl
theorem k3x (xs ys : List Bx) (i : Nat) : ∀ k, liB xs ys i = false → liB xs ys (i + k) = false
 | 0, h => h
 | k + 1, h => by
  show ljB xs ys (i + k) (liB xs ys (i + k)) _ = false
  rw [k3x xs ys i k h]; exact v03 ..
theorem k7z {xs ys : List Bx} {i j : Nat} (hi : i < ka0 xs) (hj : j < ka0 ys) (h1 : crV xs ys i j = true) (h2 : crS xs ys i j = false ∨ ka0 (cjL xs ys i (zC xs ys i) j) = 64) : liB xs ys (ka0 xs) = false := by
 have a1 : ljB xs ys i (liB xs ys i) (j + 1) = false := by
  show (_ && (!(crV xs ys i j) || _)) = false
  rw [h1]
  rcases h2 with h2 | h2
  ·rw [h2]; simp
  ·rw [h2]; simp
 have a2 := k3v xs ys i (liB xs ys i) (j + 1) (ka0 ys - (j + 1)) a1
 rw [show j + 1 + (ka0 ys - (j + 1)) = ka0 ys by omega] at a2
 have a3 := k3x xs ys (i + 1) (ka0 xs - (i + 1)) a2
 rw [show i + 1 + (ka0 xs - (i + 1)) = ka0 xs by omega] at a3
 exact a3
def CI (xs ys : List Bx) (i : Nat) (o : List Bx) : Prop := zC xs ys i = o ∧ liB xs ys i = true
def CJ2 (xs ys : List Bx) (i j : Nat) (o : List Bx) : Prop := cjL xs ys i (zC xs ys i) j = o ∧ ljB xs ys i (liB xs ys i) j = true
theorem CI.zero (xs ys : List Bx) : CI xs ys 0 [] := ⟨rfl, rfl⟩
theorem CI.in {xs ys : List Bx} {i : Nat} {o : List Bx} (h : CI xs ys i o) : CJ2 xs ys i 0 o := h
theorem CJ2.out {xs ys : List Bx} {i j : Nat} {o : List Bx} (h : CJ2 xs ys i j o) (hj : j = ka0 ys) : CI xs ys (i + 1) o := by subst hj; exact h
theorem CJ2.n {xs ys : List Bx} {i j : Nat} {o : List Bx} (h : CJ2 xs ys i j o) (h1 : crV xs ys i j = false) : CJ2 xs ys i (j + 1) o := by
 refine ⟨?_, ?_⟩
 ·show (if crV xs ys i j = true then _ else _) = o
  rw [if_neg (by rw [h1]; decide)]; exact h.1
 ·show (ljB xs ys i (liB xs ys i) j && _) = true
  rw [h.2, h1]; rfl
theorem CJ2.y {xs ys : List Bx} {i j : Nat} {o : List Bx} (h : CJ2 xs ys i j o) (h1 : crV xs ys i j = true) (h2 : crS xs ys i j = true) (h3 : ¬ ka0 o = 64) : CJ2 xs ys i (j + 1) (o ++ [crB xs ys i j]) := by
 refine ⟨?_, ?_⟩
 ·show (if crV xs ys i j = true then _ else _) = _
  rw [if_pos h1, h.1]
 ·show (ljB xs ys i (liB xs ys i) j && (!(crV xs ys i j) || (crS xs ys i j && decide _))) = true
  rw [h.2, h1, h2, h.1, decide_eq_true h3]; rfl
def ixV (a b : List Bx) : Bool := cQ a && cQ b
def d7 (a b : List Bx) : List Bx := if ixV a b = true then (if liB a b (ka0 a) = true then b7 (zC a b (ka0 a)) else []) else []
def mO (a b : List Bx) : Int := if ixV a b = true then (if liB a b (ka0 a) = true then sB (zC a b (ka0 a)) else 3) else 1
theorem v2q {a b : List Bx} (h : cQ a = false) : d7 a b = [] ∧ mO a b = 1 := by unfold d7 mO ixV; rw [h]; exact ⟨rfl, rfl⟩
theorem v2p {a b : List Bx} (h : cQ b = false) : d7 a b = [] ∧ mO a b = 1 := by unfold d7 mO ixV; rw [h, kc7]; exact ⟨rfl, rfl⟩
theorem v08 {a b : List Bx} (h1 : cQ a = true) (h2 : cQ b = true) (h : liB a b (ka0 a) = false) : d7 a b = [] ∧ mO a b = 3 := by unfold d7 mO ixV; rw [h1, h2, h]; exact ⟨rfl, rfl⟩
theorem v07 {a b o : List Bx} {i : Nat} (h1 : cQ a = true) (h2 : cQ b = true) (h : CI a b i o) (hi : i = ka0 a) : d7 a b = b7 o ∧ mO a b = sB o := by
 subst hi
 unfold d7 mO ixV; rw [h1, h2, h.1, h.2]; exact ⟨rfl, rfl⟩
theorem u2d (a b : List Bx) : 0 ≤ mO a b ∧ mO a b ≤ 3 := by
 unfold mO; split
 ·split
  ·have := k39 (zC a b (ka0 a)); omega
  ·decide
 ·decide
theorem u61 (xs : List Bx) : ka0 (b7 xs) ≤ 64 := by
 unfold b7; split
 ·rename_i h
  have h1 := (of_decide_eq_true h).1
  exact ke2 (k1t xs _) h1
 ·exact ke0 _
theorem u6q (a b : List Bx) : ka0 (d7 a b) ≤ 64 := by
 unfold d7; split
 ·split
  ·exact u61 _
  ·exact ke0 _
 ·exact ke0 _
theorem k3r {m : List (List Int)} {z : Nat} (h : z < m.length) : kI (ka5 (z + 1) m) = kI (ka5 z m ++ [ka1 m z []]) := by
 rw [List.take_succ_eq_append_getElem h, ka7, ka8 h]; rfl
theorem u58 (a : List Int) (n : Nat) (k : Int) (r : List Int) (rn : Nat) (m : List (List Int)) (c : Nat) (s : List Int) (sn : Nat) (hn : ka0 a = n) (h1 : n ≤ 1000000) (hc : ka0 m = c) (h3 : c ≤ 1000000) (hW : MsW m) : Fun 124 [.c (.d (D.sl (dI .i64 a) n)), .c (.ptr 0 0)] (kH [(0, some (59, .ds [iD k, D.sl (dI .i64 r) rn, D.sl (kI m) c, D.sl (dI .i64 s) sn]))]) 1 (uP (D.lit (.bool (nhB m a)))) (kH [(0, some (59, .ds [iD k, D.sl (dI .i64 r) rn, D.sl (kI m) c, D.sl (dI .i64 s) sn]))]) 1 := by
 refine Fun.mk (n := 9) Tryz.func124 rfl rfl (ka4 rfl) ?_
 intro cx hcx
 refine kK [.no] True [(0, sV .i64 a n), (1, rV 0 0)] [(0, some (59, .ds [iD k, dl r rn, D.sl (kI m) c, dl s sn]))] 1 trivial ?_
 rcases ka9 (gI m a) with hx1 | hx1
 ·refine kO [.no, .no, .no, .call [] (bV true) [] 0 [] none, .no, .no] (Fun 96 [.c (.d (D.sl (kI m) c)), .c (.d (dl a n))] (kH []) 0 (bV true) (kH []) 0) [(3, bV false)] (by have h0 := (lQ m c a n zo zo zo zo (qD : MsW m)); rw [hx1] at h0; exact h0) ?_
  refine AW.ret ?_
  exact kA (.inr rfl) [] (P := ((nhB m a) = false) ∧ (kM [iD k, dl r rn, D.sl (kI m) c, dl s sn])) zk ⟨(by first | exact u6c (by assumption) | exact u6d (by assumption)), rfl⟩
 ·refine kO [.no, .no, .no, .call [] (bV false) [] 0 [] none, .no, .no] (Fun 96 [.c (.d (D.sl (kI m) c)), .c (.d (dl a n))] (kH []) 0 (bV false) (kH []) 0) [(3, bV true)] (by have h0 := (lQ m c a n zo zo zo zo (qD : MsW m)); rw [hx1] at h0; exact h0) ?_
  refine AW.ret ?_
  exact kA (.inr rfl) [] (P := ((nhB m a) = true) ∧ (kM [iD k, dl r rn, D.sl (kI m) c, dl s sn])) zk ⟨(by first | exact u6c (by assumption) | exact u6d (by assumption)), rfl⟩
theorem u9 {p : Prop} (h : p := by first | omega | assumption | simp) : p := h
theorem bM {p : Prop} (h : p := by first | omega | (simp only [qC, qB, ka6, kb0, kb1, kb2, kb3] <;> omega)) : p := h
theorem kR {p : Prop} (h : p := by first | omega | with_reducible assumption | (simp only [qC, qB, ka6, kb0, kb1, kb2, kb3, kb4, kb8] <;> omega) | rfl | assumption) : p := h
theorem bL {p : Prop} (h : p := by first | rfl | omega | assumption | (simp; done) | (simp; omega)) : p := h
theorem aC {p : Prop} (h : p := by first | omega | (show _ < _; simp; omega)) : p := h
abbrev cC (k : Int) (r : List Int) (rn : Nat) (m : List (List Int)) (c : Nat) (s : List Int) (sn : Nat) : BC := .ds [iD k, D.sl (dI .i64 r) rn, D.sl (kI m) c, D.sl (dI .i64 s) sn]
theorem u57 (a : List (List Int)) (n : Nat) (k : Int) (r : List Int) (rn : Nat) (m : List (List Int)) (c : Nat) (s : List Int) (sn : Nat) (hn : ka0 a = n) (h1 : n ≤ 1000000) (hA : MsW a) (hc : ka0 m = c) (h3 : c ≤ 1000000) (hW : MsW m) : Fun 146 [.c (.d (D.sl (kI a) n)), .c (.fn 124 [(0, 0)])] (kH [(0, some (59, .ds [iD k, D.sl (dI .i64 r) rn, D.sl (kI m) c, D.sl (dI .i64 s) sn]))]) 1 (iV (stK a m n)) (kH [(0, some (59, .ds [iD k, D.sl (dI .i64 r) rn, D.sl (kI m) c, D.sl (dI .i64 s) sn]))]) 1 := by
 refine Fun.mk (n := 19) Tryz.func146 rfl rfl (ka4 rfl) ?_
 intro cx hcx
 refine kK [.no] True [(0, kG (kI a) n), (1, .e (.c (.fn 124 [(0, 0)])))] [(0, some (59, (cC k r rn m c s sn)))] 1 trivial ?_
 refine AW.seq ?_
 refine kO [.no, .no, .no] True [(0, kG (kI a) n), (1, .e (.c (.fn 124 [(0, 0)]))), (7, uV n), (8, iV 0)] trivial ?_
 refine AW.block ?_
 refine kY 1 hcx (fun (x : {x : Nat // match x with | z => (z ≤ n) ∧ (stK a m z = -1)}) => match x with | ⟨z, _⟩ => (⟨[(0, kG (kI a) n), (1, .e (.c (.fn 124 [(0, 0)]))), (7, uV n), (8, uV z)], [(0, some (59, (cC k r rn m c s sn)))], 1⟩ : ES)) (fun x => match x with | ⟨z, _⟩ => n - z) ⟨(0 : Nat), ⟨u9, rfl⟩⟩ [] (P := (kM (kI a)) ∧ (kJ n) ∧ (kN (n : Int)) ∧ (kN 0) ∧ (kM [iD k, dl r rn, D.sl (kI m) c, dl s sn])) zk ⟨rfl, rfl, rfl, rfl, rfl⟩ ?_
 rintro ⟨z, hinv0⟩
 obtain ⟨hk, hi⟩ : (z ≤ n) ∧ (stK a m z = -1) := hinv0
 refine qR (l := [(0, kG (kI a) n), (1, .e (.c (.fn 124 [(0, 0)]))), (7, uV n), (8, uV z)]) (g := [(0, some (59, (cC k r rn m c s sn)))]) (nx := 1) rfl rfl rfl ?_
 by_cases hx1 : (((z : Nat) : Int) < ((n : Nat) : Int))
 ·refine kK [.b true] (((z : Int) < (n : Int))) [(0, kG (kI a) n), (1, .e (.c (.fn 124 [(0, 0)]))), (7, uV n), (8, uV z), (9, bV true)] [(0, some (59, (cC k r rn m c s sn)))] 1 zo ?_
  refine AW.seq ?_
  refine vB ?_
  refine AW.seq ?_
  refine AW.block ?_
  refine kO [.no, .no] True [(0, kG (kI a) n), (1, .e (.c (.fn 124 [(0, 0)]))), (5, uV z), (7, uV n), (8, uV z)] trivial ?_
  rcases ka9 (nhB m (ka1 a z ([] : List Int))) with hx3 | hx3
  ·have hx4 : ((ka0 (ka1 a z ([] : List Int))) ≤ 1000000) := MsW.at (qD : MsW a) _
   refine kO [.no, .no, .no, .n z, .d (dl (ka1 a z ([] : List Int)) (ka0 (ka1 a z ([] : List Int)))), .call [0] (bV true) [(0, some (59, (cC k r rn m c s sn)))] 1 [] none] ((kN (z : Int)) ∧ (z < n) ∧ ((ka3 z (kI a))[0]? = some (dl (ka1 a z ([] : List Int)) (ka0 (ka1 a z ([] : List Int))))) ∧ (Fun 124 [.c (.d (dl (ka1 a z ([] : List Int)) (ka0 (ka1 a z ([] : List Int))))), .c (.ptr 0 0)] (kH [(0, some (59, (cC k r rn m c s sn)))]) 1 (bV true) (kH [(0, some (59, (cC k r rn m c s sn)))]) 1)) [(0, kG (kI a) n), (1, .e (.c (.fn 124 [(0, 0)]))), (5, uV z), (7, uV n), (8, uV z), (16, bV true)] ⟨rfl, zo, (vQ _ _ bM), (by have h0 := (u58 (ka1 a z ([] : List Int)) (ka0 (ka1 a z ([] : List Int))) k r rn m c s sn rfl kR zo zo (qD : MsW m)); rw [hx3] at h0; exact h0)⟩ ?_
   refine zt ?_
   refine kO [.no, .no] True [(4, uV z)] trivial ?_
   refine AW.ret ?_
   exact kA (.inr rfl) [] (P := (((stK a m n) : Int) = (z : Int)) ∧ (kM [iD k, dl r rn, D.sl (kI m) c, dl s sn])) zk ⟨(by first | rfl | exact u40 hi (by assumption) zo | (rw [show n = z by omega]; exact hi) | omega), rfl⟩
  ·have hx5 : ((ka0 (ka1 a z ([] : List Int))) ≤ 1000000) := MsW.at (qD : MsW a) _
   refine kO [.no, .no, .no, .n z, .d (dl (ka1 a z ([] : List Int)) (ka0 (ka1 a z ([] : List Int)))), .call [0] (bV false) [(0, some (59, (cC k r rn m c s sn)))] 1 [] none] ((kN (z : Int)) ∧ (z < n) ∧ ((ka3 z (kI a))[0]? = some (dl (ka1 a z ([] : List Int)) (ka0 (ka1 a z ([] : List Int))))) ∧ (Fun 124 [.c (.d (dl (ka1 a z ([] : List Int)) (ka0 (ka1 a z ([] : List Int))))), .c (.ptr 0 0)] (kH [(0, some (59, (cC k r rn m c s sn)))]) 1 (bV false) (kH [(0, some (59, (cC k r rn m c s sn)))]) 1)) [(0, kG (kI a) n), (1, .e (.c (.fn 124 [(0, 0)]))), (5, uV z), (7, uV n), (8, uV z), (16, bV false)] ⟨rfl, zo, (vQ _ _ bM), (by have h0 := (u58 (ka1 a z ([] : List Int)) (ka0 (ka1 a z ([] : List Int))) k r rn m c s sn rfl kR zo zo (qD : MsW m)); rw [hx3] at h0; exact h0)⟩ ?_
   refine q8 ?_
   refine uT [.w, .no] ((-9223372036854775808) ≤ ((z : Int) + 1) ∧ ((z : Int) + 1) ≤ 9223372036854775807) [(0, kG (kI a) n), (1, .e (.c (.fn 124 [(0, 0)]))), (7, uV n), (8, iV (↑z + 1))] ⟨by omega, by omega⟩ ?_
   exact kW ⟨((z + 1) : Nat), ⟨u9, (u8m hi (by assumption))⟩⟩ [] (P := (kM (kI a)) ∧ (kJ n) ∧ (kN (n : Int)) ∧ (((((z + 1) : Nat) : Int) : Int) = ((z : Int) + 1)) ∧ (kM [iD k, dl r rn, D.sl (kI m) c, dl s sn])) zk ⟨rfl, rfl, rfl, bL, rfl⟩ (show n - (z + 1) < n - z from aC)
 ·refine kK [.b false] (¬ ((z : Int) < (n : Int))) [(0, kG (kI a) n), (1, .e (.c (.fn 124 [(0, 0)]))), (7, uV n), (8, uV z), (9, bV false)] [(0, some (59, (cC k r rn m c s sn)))] 1 zo ?_
  refine AW.seq ?_
  refine zf ?_
  refine AW.exit ?_
  refine kK [.no] True [(4, iV (-1))] [(0, some (59, (cC k r rn m c s sn)))] 1 trivial ?_
  refine AW.ret ?_
  exact kA (.inr rfl) [] (P := (((stK a m n) : Int) = (-1)) ∧ (kM [iD k, dl r rn, D.sl (kI m) c, dl s sn])) zk ⟨(by first | rfl | exact u40 hi (by assumption) zo | (rw [show n = z by omega]; exact hi) | omega), rfl⟩
theorem u13 (a : List (List Int)) (n : Nat) (k : Int) (r : List Int) (rn : Nat) (m : List (List Int)) (c : Nat) (s : List Int) (sn : Nat) (hn : ka0 a = n) (h1 : n ≤ 1000000) (hA : MsW a) (hc : ka0 m = c) (h3 : c ≤ 1000000) (hW : MsW m) : Fun 126 [.c (.d (D.sl (kI a) n)), .c (.fn 124 [(0, 0)])] (kH [(0, some (59, .ds [iD k, D.sl (dI .i64 r) rn, D.sl (kI m) c, D.sl (dI .i64 s) sn]))]) 1 (uP (D.lit (.bool (sgB a m)))) (kH [(0, some (59, .ds [iD k, D.sl (dI .i64 r) rn, D.sl (kI m) c, D.sl (dI .i64 s) sn]))]) 1 := by
 refine Fun.mk (n := 9) Tryz.func126 rfl rfl (ka4 rfl) ?_
 intro cx hcx
 refine kK [.no] True [(0, kG (kI a) n), (1, .e (.c (.fn 124 [(0, 0)])))] [(0, some (59, .ds [iD k, dl r rn, D.sl (kI m) c, dl s sn]))] 1 trivial ?_
 by_cases hx1 : ((0 : Int) ≤ (stK a m n))
 ·refine kO [.no, .no, .call [0] (iV (stK a m n)) [(0, some (59, .ds [iD k, dl r rn, D.sl (kI m) c, dl s sn]))] 1 [] none, .b true, .no] ((_) ∧ (((0 : Int) ≤ (stK a m n)))) [(4, bV true)] ⟨(u57 a n k r rn m c s sn zo zo (qD : MsW a) zo zo (qD : MsW m)), zo⟩ ?_
  refine AW.ret ?_
  exact kA (.inr rfl) [] (P := ((sgB a m) = true) ∧ (kM [iD k, dl r rn, D.sl (kI m) c, dl s sn])) zk ⟨(by first | exact u8r hn zo | exact u8s hn zo), rfl⟩
 ·refine kO [.no, .no, .call [0] (iV (stK a m n)) [(0, some (59, .ds [iD k, dl r rn, D.sl (kI m) c, dl s sn]))] 1 [] none, .b false, .no] ((_) ∧ (¬ ((0 : Int) ≤ (stK a m n)))) [(4, bV false)] ⟨(u57 a n k r rn m c s sn zo zo (qD : MsW a) zo zo (qD : MsW m)), zo⟩ ?_
  refine AW.ret ?_
  exact kA (.inr rfl) [] (P := ((sgB a m) = false) ∧ (kM [iD k, dl r rn, D.sl (kI m) c, dl s sn])) zk ⟨(by first | exact u8r hn zo | exact u8s hn zo), rfl⟩
theorem oK {p : Prop} (h : p := by first | exact v2c (by omega) (by assumption) (by assumption) (by assumption) | exact v2g (by omega) | exact v2e (by assumption) | exact v2f (by assumption) | exact v2d (by assumption)) : p := h
abbrev dU (k2 : Int) (r2 : List Int) (rn2 : Nat) (m2 : List (List Int)) (c2 : Nat) (s2 : List Int) (sn2 : Nat) : BC := .ds [iD k2, D.sl (dI .i64 r2) rn2, D.sl (kI m2) c2, D.sl (dI .i64 s2) sn2]
theorem k5x (k : Int) (r : List Int) (rn : Nat) (m : List (List Int)) (c : Nat) (s : List Int) (sn : Nat) (k2 : Int) (r2 : List Int) (rn2 : Nat) (m2 : List (List Int)) (c2 : Nat) (s2 : List Int) (sn2 : Nat) (hr : ka0 r = rn * 2) (hs : ka0 s = sn * 2) (hc : ka0 m = c) (h1 : rn ≤ 1000000) (h2 : sn ≤ 1000000) (h3 : c ≤ 1000000) (hW : MsW m) (hr2 : ka0 r2 = rn2 * 2) (hs2 : ka0 s2 = sn2 * 2) (hc2 : ka0 m2 = c2) (h12 : rn2 ≤ 1000000) (h22 : sn2 ≤ 1000000) (h32 : c2 ≤ 1000000) (hW2 : MsW m2) : Fun 80 [.agg [iC k, .d (D.sl (dI .i64 r) rn), .d (D.sl (kI m) c), .d (D.sl (dI .i64 s) sn)], .agg [iC k2, .d (D.sl (dI .i64 r2) rn2), .d (D.sl (kI m2) c2), .d (D.sl (dI .i64 s2) sn2)]] (kH []) 0 (uP (D.lit (.bool (rK k r rn m s sn k2 r2 rn2 m2 s2 sn2)))) (kH []) 0 := by
 refine Fun.mk (n := 34) Tryz.func80 rfl rfl (ka4 rfl) ?_
 intro cx hcx
 refine kK [.no, .no, .no] True [(2, rV 0 0), (3, rV 1 0)] [(0, some (59, .ds [iD k, dl r rn, D.sl (kI m) c, dl s sn])), (1, some (59, (dU k2 r2 rn2 m2 c2 s2 sn2)))] 2 trivial ?_
 refine kO [.no, .no] True [(2, rV 0 0), (3, rV 1 0), (5, .e (.c (.fn 124 [(1, 0)])))] trivial ?_
 by_cases hx1 : ((dM k k2) = 0)
 ·rcases ka9 (inB (kC r rn) (kC r2 rn2)) with hx2 | hx2
  ·rcases ka9 (sgB m m2) with hx3 | hx3
   ·refine kK (qE 4 (.i (dM k k2) :: .b true :: qE 5 (.call [] (bV true) [] 0 [] none :: qE 5 (.call [1] (bV true) [(0, some (59, (dU k2 r2 rn2 m2 c2 s2 sn2)))] 1 [] none :: qE 5 [])))) ((qG .andNot .i64 k k2 = (dM k k2)) ∧ (((dM k k2) = 0)) ∧ (Fun 125 [.agg [.d (dl r rn)], .agg [.d (dl r2 rn2)]] (kH []) 0 (bV true) (kH []) 0) ∧ (Fun 126 [.c (.d (D.sl (kI m) c)), .c (.fn 124 [(0, 0)])] (kH [(0, some (59, (dU k2 r2 rn2 m2 c2 s2 sn2)))]) 1 (bV true) (kH [(0, some (59, (dU k2 r2 rn2 m2 c2 s2 sn2)))]) 1)) [(4, bV false)] [] 2 ⟨rfl, zo, (by have h0 := (eJ r r2 rn rn2 zo zo zo zo); rw [hx2] at h0; exact h0), (by have h0 := (u13 m c k2 r2 rn2 m2 c2 s2 sn2 zo zo (qD : MsW m) zo zo (qD : MsW m2)); rw [hx3] at h0; exact h0)⟩ ?_
    refine AW.ret ?_
    exact kA (.inr rfl) [] (P := ((rK k r rn m s sn k2 r2 rn2 m2 s2 sn2) = false)) zk oK
   ·rcases ka9 (inB (kC s sn) (kC s2 sn2)) with hx4 | hx4
    ·refine kK (qE 4 (.i (dM k k2) :: .b true :: qE 5 (.call [] (bV true) [] 0 [] none :: qE 5 (.call [1] (bV false) [(0, some (59, (dU k2 r2 rn2 m2 c2 s2 sn2)))] 1 [] none :: qE 7 [.call [] (bV true) [] 0 [] none, .no, .no])))) ((qG .andNot .i64 k k2 = (dM k k2)) ∧ (((dM k k2) = 0)) ∧ (Fun 125 [.agg [.d (dl r rn)], .agg [.d (dl r2 rn2)]] (kH []) 0 (bV true) (kH []) 0) ∧ (Fun 126 [.c (.d (D.sl (kI m) c)), .c (.fn 124 [(0, 0)])] (kH [(0, some (59, (dU k2 r2 rn2 m2 c2 s2 sn2)))]) 1 (bV false) (kH [(0, some (59, (dU k2 r2 rn2 m2 c2 s2 sn2)))]) 1) ∧ (Fun 125 [.agg [.d (dl s sn)], .agg [.d (dl s2 sn2)]] (kH []) 0 (bV true) (kH []) 0)) [(4, bV true)] [] 2 ⟨rfl, zo, (by have h0 := (eJ r r2 rn rn2 zo zo zo zo); rw [hx2] at h0; exact h0), (by have h0 := (u13 m c k2 r2 rn2 m2 c2 s2 sn2 zo zo (qD : MsW m) zo zo (qD : MsW m2)); rw [hx3] at h0; exact h0), (by have h0 := (eJ s s2 sn sn2 zo zo zo zo); rw [hx4] at h0; exact h0)⟩ ?_
     refine AW.ret ?_
     exact kA (.inr rfl) [] (P := ((rK k r rn m s sn k2 r2 rn2 m2 s2 sn2) = true)) zk oK
    ·refine kK (qE 4 (.i (dM k k2) :: .b true :: qE 5 (.call [] (bV true) [] 0 [] none :: qE 5 (.call [1] (bV false) [(0, some (59, (dU k2 r2 rn2 m2 c2 s2 sn2)))] 1 [] none :: qE 7 [.call [] (bV false) [] 0 [] none, .no, .no])))) ((qG .andNot .i64 k k2 = (dM k k2)) ∧ (((dM k k2) = 0)) ∧ (Fun 125 [.agg [.d (dl r rn)], .agg [.d (dl r2 rn2)]] (kH []) 0 (bV true) (kH []) 0) ∧ (Fun 126 [.c (.d (D.sl (kI m) c)), .c (.fn 124 [(0, 0)])] (kH [(0, some (59, (dU k2 r2 rn2 m2 c2 s2 sn2)))]) 1 (bV false) (kH [(0, some (59, (dU k2 r2 rn2 m2 c2 s2 sn2)))]) 1) ∧ (Fun 125 [.agg [.d (dl s sn)], .agg [.d (dl s2 sn2)]] (kH []) 0 (bV false) (kH []) 0)) [(4, bV false)] [] 2 ⟨rfl, zo, (by have h0 := (eJ r r2 rn rn2 zo zo zo zo); rw [hx2] at h0; exact h0), (by have h0 := (u13 m c k2 r2 rn2 m2 c2 s2 sn2 zo zo (qD : MsW m) zo zo (qD : MsW m2)); rw [hx3] at h0; exact h0), (by have h0 := (eJ s s2 sn sn2 zo zo zo zo); rw [hx4] at h0; exact h0)⟩ ?_
     refine AW.ret ?_
     exact kA (.inr rfl) [] (P := ((rK k r rn m s sn k2 r2 rn2 m2 s2 sn2) = false)) zk oK
  ·refine kK (qE 4 (.i (dM k k2) :: .b true :: qE 5 (.call [] (bV false) [] 0 [] none :: qE 6 []))) ((qG .andNot .i64 k k2 = (dM k k2)) ∧ (((dM k k2) = 0)) ∧ (Fun 125 [.agg [.d (dl r rn)], .agg [.d (dl r2 rn2)]] (kH []) 0 (bV false) (kH []) 0)) [(4, bV false)] [] 2 ⟨rfl, zo, (by have h0 := (eJ r r2 rn rn2 zo zo zo zo); rw [hx2] at h0; exact h0)⟩ ?_
   refine AW.ret ?_
   exact kA (.inr rfl) [] (P := ((rK k r rn m s sn k2 r2 rn2 m2 s2 sn2) = false)) zk oK
 ·refine kK (qE 4 (.i (dM k k2) :: .b false :: qE 7 [])) ((qG .andNot .i64 k k2 = (dM k k2)) ∧ (¬ ((dM k k2) = 0))) [(4, bV false)] [] 2 ⟨rfl, zo⟩ ?_
  refine AW.ret ?_
  exact kA (.inr rfl) [] (P := ((rK k r rn m s sn k2 r2 rn2 m2 s2 sn2) = false)) zk oK
theorem k1e {p : Prop} (h : p := by first | exact v2s (by omega) (by assumption) (by omega) | exact v2r (by omega) (by assumption) (by assumption)) : p := h
theorem u11 (xs : List Bx) (n i : Nat) (hn : ka0 xs = n) (h1 : n ≤ 1000000) (hW : BsW xs) (hi : i < n) : Fun 39 [.c (.d (D.sl (kE xs) n)), iE ((i : Nat) : Int)] (kH []) 0 (uP (D.lit (.bool (goB xs i)))) (kH []) 0 := by
 refine Fun.mk (n := 40) Tryz.func39 rfl rfl (ka4 rfl) ?_
 intro cx hcx
 refine kK [.no] True [(0, kG (kE xs) n), (1, uV i)] [] 0 trivial ?_
 refine AW.seq ?_
 refine kO [.no, .no, .no] True [(0, kG (kE xs) n), (1, uV i), (7, kG (kE xs) n), (8, uV n), (9, iV 0)] trivial ?_
 refine AW.block ?_
 refine kY 0 hcx (fun (x : {x : Nat // match x with | z => (z ≤ n) ∧ (∀ j, j < z → rC xs i j = false)}) => match x with | ⟨z, _⟩ => (⟨[(0, kG (kE xs) n), (1, uV i), (7, kG (kE xs) n), (8, uV n), (9, uV z)], [], 0⟩ : ES)) (fun x => match x with | ⟨z, _⟩ => n - z) ⟨(0 : Nat), ⟨u9, (fun j hj => absurd hj (Nat.not_lt_zero j))⟩⟩ [] (P := (kM (kE xs)) ∧ (kJ n) ∧ (kN (i : Int)) ∧ (kM (kE xs)) ∧ (kJ n) ∧ (kN (n : Int)) ∧ (kN 0)) zk ⟨rfl, rfl, rfl, rfl, rfl, rfl, rfl⟩ ?_
 rintro ⟨z, hinv0⟩
 obtain ⟨hz, ha⟩ : (z ≤ n) ∧ (∀ j, j < z → rC xs i j = false) := hinv0
 refine qR (l := [(0, kG (kE xs) n), (1, uV i), (7, kG (kE xs) n), (8, uV n), (9, uV z)]) (g := []) (nx := 0) rfl rfl rfl ?_
 by_cases hx1 : (((z : Nat) : Int) < ((n : Nat) : Int))
 ·refine kK [.b true] (((z : Int) < (n : Int))) [(0, kG (kE xs) n), (1, uV i), (7, kG (kE xs) n), (8, uV n), (9, uV z), (10, bV true)] [] 0 zo ?_
  refine AW.seq ?_
  refine vB ?_
  refine AW.seq ?_
  refine AW.block ?_
  obtain ⟨hx2, hx3, hx4, hx5, hx6⟩ := BsW.at (qD : BsW xs) (z)
  refine kK [.no, .n z, .ds [iD (kQ xs z), dl (kZ xs z) (kX xs z), D.sl (kI (kL xs z)) (ka0 (kL xs z)), dl (qA xs z) (k8 xs z)], .no, .no, .no] ((kN (z : Int)) ∧ (z < n) ∧ (ka5 4 (ka3 (z * 4) (kE xs)) = [iD (kQ xs z), dl (kZ xs z) (kX xs z), D.sl (kI (kL xs z)) (ka0 (kL xs z)), dl (qA xs z) (k8 xs z)]) ∧ (([iD (kQ xs z), dl (kZ xs z) (kX xs z), D.sl (kI (kL xs z)) (ka0 (kL xs z)), dl (qA xs z) (k8 xs z)] : List D).length = 4)) [(0, kG (kE xs) n), (1, uV i), (5, uV z), (6, rV 0 0), (7, kG (kE xs) n), (8, uV n), (9, uV z)] [(0, some (59, .ds [iD (kQ xs z), dl (kZ xs z) (kX xs z), D.sl (kI (kL xs z)) (ka0 (kL xs z)), dl (qA xs z) (k8 xs z)]))] 1 ⟨rfl, zo, (yV bM), rfl⟩ ?_
  by_cases hx7 : (((z : Nat) : Int) ≠ ((i : Nat) : Int))
  ·rcases ka9 (rK (kQ xs i) (kZ xs i) (kX xs i) (kL xs i) (qA xs i) (k8 xs i) (kQ xs z) (kZ xs z) (kX xs z) (kL xs z) (qA xs z) (k8 xs z)) with hx13 | hx13
   ·by_cases hx19 : (((z : Nat) : Int) < ((i : Nat) : Int))
    ·obtain ⟨hx20, hx21, hx22, hx23, hx24⟩ := BsW.at (qD : BsW xs) (i)
     refine kK [.no, .no, .b true, .no, .no, .no, .n i, .ds [iD (kQ xs i), dl (kZ xs i) (kX xs i), D.sl (kI (kL xs i)) (ka0 (kL xs i)), dl (qA xs i) (k8 xs i)], .no, .call [] (bV true) [] 0 [] none, .no, .no, .no, .no, .b true, .no, .no, .no] ((((z : Int) ≠ (i : Int))) ∧ (kN (i : Int)) ∧ (i < n) ∧ (ka5 4 (ka3 (i * 4) (kE xs)) = [iD (kQ xs i), dl (kZ xs i) (kX xs i), D.sl (kI (kL xs i)) (ka0 (kL xs i)), dl (qA xs i) (k8 xs i)]) ∧ (([iD (kQ xs i), dl (kZ xs i) (kX xs i), D.sl (kI (kL xs i)) (ka0 (kL xs i)), dl (qA xs i) (k8 xs i)] : List D).length = 4) ∧ (Fun 80 [.agg [iC (kQ xs i), .d (dl (kZ xs i) (kX xs i)), .d (D.sl (kI (kL xs i)) (ka0 (kL xs i))), .d (dl (qA xs i) (k8 xs i))], .agg [iC (kQ xs z), .d (dl (kZ xs z) (kX xs z)), .d (D.sl (kI (kL xs z)) (ka0 (kL xs z))), .d (dl (qA xs z) (k8 xs z))]] (kH []) 0 (bV true) (kH []) 0) ∧ (((z : Int) < (i : Int)))) [(0, kG (kE xs) n), (1, uV i), (7, kG (kE xs) n), (8, uV n), (9, uV z), (38, bV true)] [] 1 ⟨zo, rfl, zo, (yV bM), rfl, (by have h0 := (k5x (kQ xs i) (kZ xs i) (kX xs i) (kL xs i) (ka0 (kL xs i)) (qA xs i) (k8 xs i) (kQ xs z) (kZ xs z) (kX xs z) (kL xs z) (ka0 (kL xs z)) (qA xs z) (k8 xs z) kR kR rfl kR kR kR (BsW.ms (qD : BsW xs) _) kR kR rfl kR kR kR (BsW.ms (qD : BsW xs) _)); rw [hx13] at h0; exact h0), zo⟩ ?_
     refine zt ?_
     refine kO [.no] True [(4, bV true)] trivial ?_
     refine AW.ret ?_
     exact kA (.inr rfl) [] (P := ((goB xs i) = true)) zk (by first | exact u6y (j := z) zo k1e | exact k8h (fun j hj => ha j zo))
    ·rcases ka9 (rK (kQ xs z) (kZ xs z) (kX xs z) (kL xs z) (qA xs z) (k8 xs z) (kQ xs i) (kZ xs i) (kX xs i) (kL xs i) (qA xs i) (k8 xs i)) with hx30 | hx30
     ·obtain ⟨hx31, hx32, hx33, hx34, hx35⟩ := BsW.at (qD : BsW xs) (i)
      refine kK (.no :: .no :: .b true :: .no :: .no :: .no :: .n i :: .ds [iD (kQ xs i), dl (kZ xs i) (kX xs i), D.sl (kI (kL xs i)) (ka0 (kL xs i)), dl (qA xs i) (k8 xs i)] :: .no :: .call [] (bV true) [] 0 [] none :: qE 4 (.b false :: qE 4 [.n i, .ds [iD (kQ xs i), dl (kZ xs i) (kX xs i), D.sl (kI (kL xs i)) (ka0 (kL xs i)), dl (qA xs i) (k8 xs i)], .call [] (bV true) [] 0 [] none, .no, .no, .no])) ((((z : Int) ≠ (i : Int))) ∧ (kN (i : Int)) ∧ (i < n) ∧ (ka5 4 (ka3 (i * 4) (kE xs)) = [iD (kQ xs i), dl (kZ xs i) (kX xs i), D.sl (kI (kL xs i)) (ka0 (kL xs i)), dl (qA xs i) (k8 xs i)]) ∧ (([iD (kQ xs i), dl (kZ xs i) (kX xs i), D.sl (kI (kL xs i)) (ka0 (kL xs i)), dl (qA xs i) (k8 xs i)] : List D).length = 4) ∧ (Fun 80 [.agg [iC (kQ xs i), .d (dl (kZ xs i) (kX xs i)), .d (D.sl (kI (kL xs i)) (ka0 (kL xs i))), .d (dl (qA xs i) (k8 xs i))], .agg [iC (kQ xs z), .d (dl (kZ xs z) (kX xs z)), .d (D.sl (kI (kL xs z)) (ka0 (kL xs z))), .d (dl (qA xs z) (k8 xs z))]] (kH []) 0 (bV true) (kH []) 0) ∧ (¬ ((z : Int) < (i : Int))) ∧ (kN (i : Int)) ∧ (i < n) ∧ (ka5 4 (ka3 (i * 4) (kE xs)) = [iD (kQ xs i), dl (kZ xs i) (kX xs i), D.sl (kI (kL xs i)) (ka0 (kL xs i)), dl (qA xs i) (k8 xs i)]) ∧ (([iD (kQ xs i), dl (kZ xs i) (kX xs i), D.sl (kI (kL xs i)) (ka0 (kL xs i)), dl (qA xs i) (k8 xs i)] : List D).length = 4) ∧ (Fun 80 [.agg [iC (kQ xs z), .d (dl (kZ xs z) (kX xs z)), .d (D.sl (kI (kL xs z)) (ka0 (kL xs z))), .d (dl (qA xs z) (k8 xs z))], .agg [iC (kQ xs i), .d (dl (kZ xs i) (kX xs i)), .d (D.sl (kI (kL xs i)) (ka0 (kL xs i))), .d (dl (qA xs i) (k8 xs i))]] (kH []) 0 (bV true) (kH []) 0)) [(0, kG (kE xs) n), (1, uV i), (7, kG (kE xs) n), (8, uV n), (9, uV z), (38, bV false)] [] 1 ⟨zo, rfl, zo, (yV bM), rfl, (by have h0 := (k5x (kQ xs i) (kZ xs i) (kX xs i) (kL xs i) (ka0 (kL xs i)) (qA xs i) (k8 xs i) (kQ xs z) (kZ xs z) (kX xs z) (kL xs z) (ka0 (kL xs z)) (qA xs z) (k8 xs z) kR kR rfl kR kR kR (BsW.ms (qD : BsW xs) _) kR kR rfl kR kR kR (BsW.ms (qD : BsW xs) _)); rw [hx13] at h0; exact h0), zo, rfl, zo, (yV bM), rfl, (by have h0 := (k5x (kQ xs z) (kZ xs z) (kX xs z) (kL xs z) (ka0 (kL xs z)) (qA xs z) (k8 xs z) (kQ xs i) (kZ xs i) (kX xs i) (kL xs i) (ka0 (kL xs i)) (qA xs i) (k8 xs i) kR kR rfl kR kR kR (BsW.ms (qD : BsW xs) _) kR kR rfl kR kR kR (BsW.ms (qD : BsW xs) _)); rw [hx30] at h0; exact h0)⟩ ?_
      refine q8 ?_
      refine uT [.w, .no] ((-9223372036854775808) ≤ ((z : Int) + 1) ∧ ((z : Int) + 1) ≤ 9223372036854775807) [(0, kG (kE xs) n), (1, uV i), (7, kG (kE xs) n), (8, uV n), (9, iV (↑z + 1))] ⟨by omega, by omega⟩ ?_
      exact kW ⟨((z + 1) : Nat), ⟨u9, (fun j hj => (Nat.lt_succ_iff_lt_or_eq.1 hj).elim (ha j) (fun e9 => by subst e9; first | exact k57 zo | exact u72 (by assumption) | exact u73 (by assumption) zo))⟩⟩ [] (P := (kM (kE xs)) ∧ (kJ n) ∧ (kN (i : Int)) ∧ (kM (kE xs)) ∧ (kJ n) ∧ (kN (n : Int)) ∧ (((((z + 1) : Nat) : Int) : Int) = ((z : Int) + 1))) zk ⟨rfl, rfl, rfl, rfl, rfl, rfl, bL⟩ (show n - (z + 1) < n - z from aC)
     ·obtain ⟨hx36, hx37, hx38, hx39, hx40⟩ := BsW.at (qD : BsW xs) (i)
      refine kK (.no :: .no :: .b true :: .no :: .no :: .no :: .n i :: .ds [iD (kQ xs i), dl (kZ xs i) (kX xs i), D.sl (kI (kL xs i)) (ka0 (kL xs i)), dl (qA xs i) (k8 xs i)] :: .no :: .call [] (bV true) [] 0 [] none :: qE 4 (.b false :: qE 4 [.n i, .ds [iD (kQ xs i), dl (kZ xs i) (kX xs i), D.sl (kI (kL xs i)) (ka0 (kL xs i)), dl (qA xs i) (k8 xs i)], .call [] (bV false) [] 0 [] none, .no, .no, .no])) ((((z : Int) ≠ (i : Int))) ∧ (kN (i : Int)) ∧ (i < n) ∧ (ka5 4 (ka3 (i * 4) (kE xs)) = [iD (kQ xs i), dl (kZ xs i) (kX xs i), D.sl (kI (kL xs i)) (ka0 (kL xs i)), dl (qA xs i) (k8 xs i)]) ∧ (([iD (kQ xs i), dl (kZ xs i) (kX xs i), D.sl (kI (kL xs i)) (ka0 (kL xs i)), dl (qA xs i) (k8 xs i)] : List D).length = 4) ∧ (Fun 80 [.agg [iC (kQ xs i), .d (dl (kZ xs i) (kX xs i)), .d (D.sl (kI (kL xs i)) (ka0 (kL xs i))), .d (dl (qA xs i) (k8 xs i))], .agg [iC (kQ xs z), .d (dl (kZ xs z) (kX xs z)), .d (D.sl (kI (kL xs z)) (ka0 (kL xs z))), .d (dl (qA xs z) (k8 xs z))]] (kH []) 0 (bV true) (kH []) 0) ∧ (¬ ((z : Int) < (i : Int))) ∧ (kN (i : Int)) ∧ (i < n) ∧ (ka5 4 (ka3 (i * 4) (kE xs)) = [iD (kQ xs i), dl (kZ xs i) (kX xs i), D.sl (kI (kL xs i)) (ka0 (kL xs i)), dl (qA xs i) (k8 xs i)]) ∧ (([iD (kQ xs i), dl (kZ xs i) (kX xs i), D.sl (kI (kL xs i)) (ka0 (kL xs i)), dl (qA xs i) (k8 xs i)] : List D).length = 4) ∧ (Fun 80 [.agg [iC (kQ xs z), .d (dl (kZ xs z) (kX xs z)), .d (D.sl (kI (kL xs z)) (ka0 (kL xs z))), .d (dl (qA xs z) (k8 xs z))], .agg [iC (kQ xs i), .d (dl (kZ xs i) (kX xs i)), .d (D.sl (kI (kL xs i)) (ka0 (kL xs i))), .d (dl (qA xs i) (k8 xs i))]] (kH []) 0 (bV false) (kH []) 0)) [(0, kG (kE xs) n), (1, uV i), (7, kG (kE xs) n), (8, uV n), (9, uV z), (38, bV true)] [] 1 ⟨zo, rfl, zo, (yV bM), rfl, (by have h0 := (k5x (kQ xs i) (kZ xs i) (kX xs i) (kL xs i) (ka0 (kL xs i)) (qA xs i) (k8 xs i) (kQ xs z) (kZ xs z) (kX xs z) (kL xs z) (ka0 (kL xs z)) (qA xs z) (k8 xs z) kR kR rfl kR kR kR (BsW.ms (qD : BsW xs) _) kR kR rfl kR kR kR (BsW.ms (qD : BsW xs) _)); rw [hx13] at h0; exact h0), zo, rfl, zo, (yV bM), rfl, (by have h0 := (k5x (kQ xs z) (kZ xs z) (kX xs z) (kL xs z) (ka0 (kL xs z)) (qA xs z) (k8 xs z) (kQ xs i) (kZ xs i) (kX xs i) (kL xs i) (ka0 (kL xs i)) (qA xs i) (k8 xs i) kR kR rfl kR kR kR (BsW.ms (qD : BsW xs) _) kR kR rfl kR kR kR (BsW.ms (qD : BsW xs) _)); rw [hx30] at h0; exact h0)⟩ ?_
      refine zt ?_
      refine kO [.no] True [(4, bV true)] trivial ?_
      refine AW.ret ?_
      exact kA (.inr rfl) [] (P := ((goB xs i) = true)) zk (by first | exact u6y (j := z) zo k1e | exact k8h (fun j hj => ha j zo))
   ·obtain ⟨hx41, hx42, hx43, hx44, hx45⟩ := BsW.at (qD : BsW xs) (i)
    refine kK [.no, .no, .b true, .no, .no, .no, .n i, .ds [iD (kQ xs i), dl (kZ xs i) (kX xs i), D.sl (kI (kL xs i)) (ka0 (kL xs i)), dl (qA xs i) (k8 xs i)], .no, .call [] (bV false) [] 0 [] none, .no, .no, .no] ((((z : Int) ≠ (i : Int))) ∧ (kN (i : Int)) ∧ (i < n) ∧ (ka5 4 (ka3 (i * 4) (kE xs)) = [iD (kQ xs i), dl (kZ xs i) (kX xs i), D.sl (kI (kL xs i)) (ka0 (kL xs i)), dl (qA xs i) (k8 xs i)]) ∧ (([iD (kQ xs i), dl (kZ xs i) (kX xs i), D.sl (kI (kL xs i)) (ka0 (kL xs i)), dl (qA xs i) (k8 xs i)] : List D).length = 4) ∧ (Fun 80 [.agg [iC (kQ xs i), .d (dl (kZ xs i) (kX xs i)), .d (D.sl (kI (kL xs i)) (ka0 (kL xs i))), .d (dl (qA xs i) (k8 xs i))], .agg [iC (kQ xs z), .d (dl (kZ xs z) (kX xs z)), .d (D.sl (kI (kL xs z)) (ka0 (kL xs z))), .d (dl (qA xs z) (k8 xs z))]] (kH []) 0 (bV false) (kH []) 0)) [(0, kG (kE xs) n), (1, uV i), (7, kG (kE xs) n), (8, uV n), (9, uV z), (38, bV false)] [] 1 ⟨zo, rfl, zo, (yV bM), rfl, (by have h0 := (k5x (kQ xs i) (kZ xs i) (kX xs i) (kL xs i) (ka0 (kL xs i)) (qA xs i) (k8 xs i) (kQ xs z) (kZ xs z) (kX xs z) (kL xs z) (ka0 (kL xs z)) (qA xs z) (k8 xs z) kR kR rfl kR kR kR (BsW.ms (qD : BsW xs) _) kR kR rfl kR kR kR (BsW.ms (qD : BsW xs) _)); rw [hx13] at h0; exact h0)⟩ ?_
    refine q8 ?_
    refine uT [.w, .no] ((-9223372036854775808) ≤ ((z : Int) + 1) ∧ ((z : Int) + 1) ≤ 9223372036854775807) [(0, kG (kE xs) n), (1, uV i), (7, kG (kE xs) n), (8, uV n), (9, iV (↑z + 1))] ⟨by omega, by omega⟩ ?_
    exact kW ⟨((z + 1) : Nat), ⟨u9, (fun j hj => (Nat.lt_succ_iff_lt_or_eq.1 hj).elim (ha j) (fun e9 => by subst e9; first | exact k57 zo | exact u72 (by assumption) | exact u73 (by assumption) zo))⟩⟩ [] (P := (kM (kE xs)) ∧ (kJ n) ∧ (kN (i : Int)) ∧ (kM (kE xs)) ∧ (kJ n) ∧ (kN (n : Int)) ∧ (((((z + 1) : Nat) : Int) : Int) = ((z : Int) + 1))) zk ⟨rfl, rfl, rfl, rfl, rfl, rfl, bL⟩ (show n - (z + 1) < n - z from aC)
  ·refine kK (.no :: .no :: .b false :: qE 4 []) (¬ ((z : Int) ≠ (i : Int))) [(0, kG (kE xs) n), (1, uV i), (7, kG (kE xs) n), (8, uV n), (9, uV z), (38, bV false)] [] 1 zo ?_
   refine q8 ?_
   refine uT [.w, .no] ((-9223372036854775808) ≤ ((z : Int) + 1) ∧ ((z : Int) + 1) ≤ 9223372036854775807) [(0, kG (kE xs) n), (1, uV i), (7, kG (kE xs) n), (8, uV n), (9, iV (↑z + 1))] ⟨by omega, by omega⟩ ?_
   exact kW ⟨((z + 1) : Nat), ⟨u9, (fun j hj => (Nat.lt_succ_iff_lt_or_eq.1 hj).elim (ha j) (fun e9 => by subst e9; first | exact k57 zo | exact u72 (by assumption) | exact u73 (by assumption) zo))⟩⟩ [] (P := (kM (kE xs)) ∧ (kJ n) ∧ (kN (i : Int)) ∧ (kM (kE xs)) ∧ (kJ n) ∧ (kN (n : Int)) ∧ (((((z + 1) : Nat) : Int) : Int) = ((z : Int) + 1))) zk ⟨rfl, rfl, rfl, rfl, rfl, rfl, bL⟩ (show n - (z + 1) < n - z from aC)
 ·refine kK [.b false] (¬ ((z : Int) < (n : Int))) [(0, kG (kE xs) n), (1, uV i), (7, kG (kE xs) n), (8, uV n), (9, uV z), (10, bV false)] [] 0 zo ?_
  refine AW.seq ?_
  refine zf ?_
  refine AW.exit ?_
  refine kK [.no] True [(4, bV false)] [] 0 trivial ?_
  refine AW.ret ?_
  exact kA (.inr rfl) [] (P := ((goB xs i) = false)) zk (by first | exact u6y (j := z) zo k1e | exact k8h (fun j hj => ha j zo))
theorem tB {p : Prop} (h : p := by rw [kc9, kb7 (by first | omega | (simp only [qC, qB, qQ, ka6, kb0, kb1, kb2, kb3, kb4, kb8, kc5, kc0, kc6] <;> omega))]) : p := h
theorem vU {p : Prop} (h : p := by first | omega | (simp only [qC, qB, qQ, ka6, kb0, kb1, kb2, kb3, kb4, kb8, kc5, kc0, kc6] <;> omega) | rfl) : p := h
theorem u12 (l : List Int) (n : Nat) (hl : ka0 l = n * 2) (hb : n ≤ 1000000) : Fun 81 [.agg [.d (D.sl (dI .i64 l) n)]] (kH []) 0 (.e (.agg [.d (D.sl (dI .i64 l) n)])) (kH []) 0 := by
 refine Fun.mk (n := 7) Tryz.func81 rfl rfl (ka4 rfl) ?_
 intro cx hcx
 refine kK [.no, .no] True [(1, rV 0 0), (2, rV 1 0)] [(0, some (56, .ds [dl l n])), (1, some (56, .ds [qT]))] 2 trivial ?_
 refine kK [.no, .no, .call [] (oV 0 0 n 2) [(0, some (77, .ds (dI .i64 l)))] 1 [] none, .no, .no] _ [(2, rV 1 0)] [(1, some (56, .cs [.own 2 0 n 2 true])), (2, some (77, .ds (dI .i64 l)))] 3 (u3m l n zo zo) ?_
 refine AW.freeze 2 (l' := [(2, rV 1 0)]) (g' := [(1, some (56, .ds [dl l n]))]) rfl (FzS.cons rfl (.same _) FzS.nil) (FzG.to (bc := .cs [.own 2 0 n 2 true]) rfl (by rfl) (FzL.cons (@FzC.own 2 ((dI .i64 l) : List D) 0 n 2 true ((dI .i64 l) : List D) tB vU) FzL.nil) FzG.nil) ?_
 refine AW.ret ?_
 exact kA (.inr rfl) [] (P := (kM (dI .i64 l)) ∧ (kJ n)) zk ⟨rfl, rfl⟩
theorem u3n (m : List (List Int)) (c : Nat) (hc : ka0 m = c) (h3 : c ≤ 1000000) (hW : MsW m) : Fun 82 [.c (.d (D.sl (kI m) c)), .c (.fn 56 [])] (kH []) 0 (kG (kI m) c) (kH []) 0 := by
 refine Fun.mk (n := 22) Tryz.func82 rfl rfl (ka4 rfl) ?_
 intro cx hcx
 refine kK [.no] True [(0, kG (kI m) c), (1, .e (.c (.fn 56 [])))] [] 0 trivial ?_
 refine kO [.no] True [(0, kG (kI m) c), (1, .e (.c (.fn 56 []))), (5, nV)] trivial ?_
 refine AW.seq ?_
 refine kO [.no, .no, .no] True [(1, .e (.c (.fn 56 []))), (5, nV), (8, kG (kI m) c), (9, uV c), (10, iV 0)] trivial ?_
 refine AW.block ?_
 refine AW.adoptS 5 1 23 rfl ?_
 refine kY 0 hcx (fun (x : {x : Nat // match x with | z => (z ≤ c)}) => match x with | ⟨z, _⟩ => (⟨[(1, .e (.c (.fn 56 []))), (5, oV 1 0 z 1), (8, kG (kI m) c), (9, uV c), (10, uV z)], [(1, some (23, .ds (kI (ka5 z m))))], 2⟩ : ES)) (fun x => match x with | ⟨z, _⟩ => c - z) ⟨(0 : Nat), (show ((0 : Nat) ≤ c) from u9)⟩ [(1, 0)] (P := (kJ 0) ∧ (kJ 0) ∧ (kM (kI m)) ∧ (kJ c) ∧ (kN (c : Int)) ∧ (kN 0) ∧ (((kI (ka5 0 m)) : List D) = ([] : List D))) zk ⟨rfl, rfl, rfl, rfl, rfl, rfl, (by first | rfl | with_reducible assumption | (exact (congrArg kI (List.take_succ_eq_append_getD zo))) | (rw [k3r (by omega)]))⟩ ?_
 rintro ⟨z, hinv0⟩
 have hz : (z ≤ c) := hinv0
 refine qR (l := [(1, .e (.c (.fn 56 []))), (5, oV 1 0 z 1), (8, kG (kI m) c), (9, uV c), (10, uV z)]) (g := [(1, some (23, .ds (kI (ka5 z m))))]) (nx := 2) rfl rfl rfl ?_
 by_cases hx1 : (((z : Nat) : Int) < ((c : Nat) : Int))
 ·refine kK [.b true] (((z : Int) < (c : Int))) [(1, .e (.c (.fn 56 []))), (5, oV 1 0 z 1), (8, kG (kI m) c), (9, uV c), (10, uV z), (11, bV true)] [(1, some (23, .ds (kI (ka5 z m))))] 2 zo ?_
  refine AW.seq ?_
  refine vB ?_
  refine AW.seq ?_
  refine AW.block ?_
  have hx2 : ((ka0 (ka1 m z ([] : List Int))) ≤ 1000000) := MsW.at (qD : MsW m) _
  refine kO [.n z, .d (dl (ka1 m z ([] : List Int)) (ka0 (ka1 m z ([] : List Int)))), .no] ((kN (z : Int)) ∧ (z < c) ∧ ((ka3 z (kI m))[0]? = some (dl (ka1 m z ([] : List Int)) (ka0 (ka1 m z ([] : List Int)))))) [(1, .e (.c (.fn 56 []))), (5, oV 1 0 z 1), (7, sV .i64 (ka1 m z ([] : List Int)) (ka0 (ka1 m z ([] : List Int)))), (8, kG (kI m) c), (9, uV c), (10, uV z)] ⟨rfl, zo, (vQ _ _ bM)⟩ ?_
  refine aH [.no, .no, .no, (.fz (.call [] (oV 0 0 (ka0 (ka1 m z ([] : List Int))) 1) [(0, some (3, .ds (dI .i64 (ka1 m z ([] : List Int)))))] 1 [] none)), .no, .ap none (z + 1) (kI ((ka5 z m) ++ ([(ka1 m z ([] : List Int))] : List (List Int)))), .no] ((_) ∧ (((dI .i64 (ka1 m z ([] : List Int))) : List D).length = (ka0 (ka1 m z ([] : List Int))) * 1) ∧ ([dl (ka1 m z ([] : List Int)) (ka0 (ka1 m z ([] : List Int)))].length = 1 * 1) ∧ (((kI (ka5 z m)) : List D).length = z * 1) ∧ ((z + 1) * 24 ≤ 140737488355328) ∧ (z + 1 = (z + 1)) ∧ (((kI (ka5 z m)) : List D) ++ [dl (ka1 m z ([] : List Int)) (ka0 (ka1 m z ([] : List Int)))] = (kI ((ka5 z m) ++ ([(ka1 m z ([] : List Int))] : List (List Int)))))) [(1, .e (.c (.fn 56 []))), (5, oV 4 0 (z + 1) 1), (8, kG (kI m) c), (9, uV c), (10, uV z)] [(4, some (23, .ds (kI ((ka5 z m) ++ ([(ka1 m z ([] : List Int))] : List (List Int))))))] 5 ⟨(gR (ka1 m z ([] : List Int)) (ka0 (ka1 m z ([] : List Int))) rfl kR), vU, vU, vU, zo, zo, (bU (ka5 z m) (ka1 m z ([] : List Int)) (ka0 (ka1 m z ([] : List Int))) (by first | rfl | omega))⟩ ?_
  refine uT [.w, .no] ((-9223372036854775808) ≤ ((z : Int) + 1) ∧ ((z : Int) + 1) ≤ 9223372036854775807) [(1, .e (.c (.fn 56 []))), (5, oV 4 0 (z + 1) 1), (8, kG (kI m) c), (9, uV c), (10, iV (↑z + 1))] ⟨by omega, by omega⟩ ?_
  exact kW ⟨((z + 1) : Nat), (show ((z + 1) ≤ c) from u9)⟩ [(1, 4)] (P := (kJ 0) ∧ (kJ (z + 1)) ∧ (kM (kI m)) ∧ (kJ c) ∧ (kN (c : Int)) ∧ (((((z + 1) : Nat) : Int) : Int) = ((z : Int) + 1)) ∧ (((kI (ka5 (z + 1) m)) : List D) = (kI ((ka5 z m) ++ ([(ka1 m z ([] : List Int))] : List (List Int)))))) zk ⟨rfl, rfl, rfl, rfl, rfl, bL, (by first | rfl | with_reducible assumption | (exact (congrArg kI (List.take_succ_eq_append_getD zo))) | (rw [k3r (by omega)]))⟩ (show c - (z + 1) < c - z from aC)
 ·refine kK [.b false] (¬ ((z : Int) < (c : Int))) [(1, .e (.c (.fn 56 []))), (5, oV 1 0 z 1), (8, kG (kI m) c), (9, uV c), (10, uV z), (11, bV false)] [(1, some (23, .ds (kI (ka5 z m))))] 2 zo ?_
  refine AW.seq ?_
  refine zf ?_
  refine AW.exit ?_
  refine kK [.no, .no] True [(4, oV 1 0 z 1)] [(1, some (23, .ds (kI (ka5 z m))))] 2 trivial ?_
  refine AW.freeze 1 (l' := [(4, kG (kI (ka5 z m)) z)]) (g' := []) rfl (FzS.cons rfl (.e (.c (@FzC.own 1 ((kI (ka5 z m)) : List D) 0 z 1 true ((kI (ka5 z m)) : List D) (by rw [kc9, kc6, kb7 (by first | omega | (simp only [qC, qB, qQ, ka6, kb0, kb1, kb2, kb3, kb4, kb8, kc5, kc0, kc6] <;> omega))]) vU))) FzS.nil) FzG.nil ?_
  have hz1 : ka5 z m = m := kb7 (by omega)
  refine AW.ret ?_
  exact kA (.inr rfl) [] (P := (((kI m) : List D) = (kI (ka5 z m))) ∧ ((c : Nat) = z)) zk ⟨(by first | rfl | (rw [hz1]; done) | (rw [hz1]; rfl)), (by first | rfl | omega)⟩
abbrev u5n : BC := .ds [iD 0, D.lit (.slice none 0 0), D.lit (.slice none 0 0), D.lit (.slice none 0 0)]
theorem u88 (k : Int) (r : List Int) (rn : Nat) (m : List (List Int)) (c : Nat) (s : List Int) (sn : Nat) (hr : ka0 r = rn * 2) (hs : ka0 s = sn * 2) (hc : ka0 m = c) (h1 : rn ≤ 1000000) (h2 : sn ≤ 1000000) (h3 : c ≤ 1000000) (hW : MsW m) : Fun 40 [.agg [iC k, .d (D.sl (dI .i64 r) rn), .d (D.sl (kI m) c), .d (D.sl (dI .i64 s) sn)]] (kH []) 0 (.e (.agg [iC k, .d (D.sl (dI .i64 r) rn), .d (D.sl (kI m) c), .d (D.sl (dI .i64 s) sn)])) (kH []) 0 := by
 refine Fun.mk (n := 16) Tryz.func40 rfl rfl (ka4 rfl) ?_
 intro cx hcx
 refine kK [.no, .no] True [(1, rV 0 0), (2, rV 1 0)] [(0, some (59, .ds [iD k, dl r rn, D.sl (kI m) c, dl s sn])), (1, some (59, u5n))] 2 trivial ?_
 refine kO [.no, .no, .call [] (.e (.agg [.d (dl r rn)])) [] 0 [] none, .no, .no] _ [(1, rV 0 0), (2, rV 1 0)] (u12 r rn zo zo) ?_
 refine kO [.no, .no, .call [] (kG (kI m) c) [] 0 [] none, .no, .no] _ [(1, rV 0 0), (2, rV 1 0)] (u3n m c zo zo (qD : MsW m)) ?_
 refine kO [.no, .no, .call [] (.e (.agg [.d (dl s sn)])) [] 0 [] none, .no, .no] _ [(1, rV 0 0), (2, rV 1 0)] (u12 s sn zo zo) ?_
 refine kK [.no, .no] True [(2, rV 1 0)] [(1, some (59, .ds [iD k, dl r rn, D.sl (kI m) c, dl s sn]))] 2 trivial ?_
 refine AW.ret ?_
 exact kA (.inr rfl) [] (P := (kN k) ∧ (kM (dI .i64 r)) ∧ (kJ rn) ∧ (kM (kI m)) ∧ (kJ c) ∧ (kM (dI .i64 s)) ∧ (kJ sn)) zk ⟨rfl, rfl, rfl, rfl, rfl, rfl, rfl⟩
abbrev u1n (xs : List Bx) (i : Nat) : BC := .ds [iD (kQ xs i), D.sl (dI .i64 (kZ xs i)) (kX xs i), D.sl (kI (kL xs i)) (ka0 (kL xs i)), D.sl (dI .i64 (qA xs i)) (k8 xs i)]
theorem v1f (xs : List Bx) (n : Nat) (hn : ka0 xs = n) (h1 : n ≤ 1000000) (hW : BsW xs) : Fun 14 [.c (.d (D.sl (kE xs) n))] (kH []) 0 (.tup [.c (.d (D.sl (kE (b7 xs)) (ka0 (b7 xs)))), iE (sB xs)]) (kH []) 0 := by
 refine Fun.mk (n := 28) Tryz.func14 rfl rfl (ka4 rfl) ?_
 intro cx hcx
 refine kK [.no, .no] True [(0, kG (kE xs) n)] [] 0 trivial ?_
 refine AW.seq ?_
 rcases ka9 (cQ xs) with hx1 | hx1
 ·refine kO [.no, .call [] (bV true) [] 0 [] none, .no] (Fun 18 [.c (.d (D.sl (kE xs) n))] (kH []) 0 (bV true) (kH []) 0) [(0, kG (kE xs) n), (9, bV false)] (by have h0 := (bY xs n zo zo (qD : BsW xs)); rw [hx1] at h0; exact h0) ?_
  refine q8 ?_
  refine kO [.no] True [(0, kG (kE xs) n), (4, nV)] trivial ?_
  refine AW.seq ?_
  refine kO [.no, .no, .no] True [(0, kG (kE xs) n), (4, nV), (10, kG (kE xs) n), (11, uV n), (12, iV 0)] trivial ?_
  refine AW.block ?_
  refine AW.adoptS 4 4 59 rfl ?_
  refine kY 0 hcx (fun (x : {x : Nat × Nat × List Bx // match x with | (i, q, o) => (i ≤ n ∧ q ≤ i) ∧ (x4 xs i = o) ∧ (ka0 o = q)}) => match x with | ⟨(i, q, o), _⟩ => (⟨[(0, kG (kE xs) n), (4, oV 1 0 q 4), (10, kG (kE xs) n), (11, uV n), (12, uV i)], [(1, some (59, .ds (kE o)))], 2⟩ : ES)) (fun x => match x with | ⟨(i, q, o), _⟩ => n - i) ⟨((0 : Nat), (0 : Nat), (([] : List Bx) : List Bx)), ⟨u9, rfl, rfl⟩⟩ [(1, 0)] (P := (kM (kE xs)) ∧ (kJ n) ∧ (kJ 0) ∧ (kJ 0) ∧ (kM (kE xs)) ∧ (kJ n) ∧ (kN (n : Int)) ∧ (kN 0) ∧ (((kE ([] : List Bx)) : List D) = ([] : List D))) zk ⟨rfl, rfl, rfl, rfl, rfl, rfl, rfl, rfl, (by first | rfl | with_reducible assumption)⟩ ?_
  rintro ⟨⟨i, q, o⟩, hinv0⟩
  obtain ⟨hi, ho, hq⟩ : (i ≤ n ∧ q ≤ i) ∧ (x4 xs i = o) ∧ (ka0 o = q) := hinv0
  refine qR (l := [(0, kG (kE xs) n), (4, oV 1 0 q 4), (10, kG (kE xs) n), (11, uV n), (12, uV i)]) (g := [(1, some (59, .ds (kE o)))]) (nx := 2) rfl rfl rfl ?_
  by_cases hx2 : (((i : Nat) : Int) < ((n : Nat) : Int))
  ·refine kK [.b true] (((i : Int) < (n : Int))) [(0, kG (kE xs) n), (4, oV 1 0 q 4), (10, kG (kE xs) n), (11, uV n), (12, uV i), (13, bV true)] [(1, some (59, .ds (kE o)))] 2 zo ?_
   refine AW.seq ?_
   refine vB ?_
   refine AW.seq ?_
   refine AW.block ?_
   obtain ⟨hx3, hx4, hx5, hx6, hx7⟩ := BsW.at (qD : BsW xs) (i)
   refine kK [.no, .n i, .ds [iD (kQ xs i), dl (kZ xs i) (kX xs i), D.sl (kI (kL xs i)) (ka0 (kL xs i)), dl (qA xs i) (k8 xs i)], .no, .no, .no] ((kN (i : Int)) ∧ (i < n) ∧ (ka5 4 (ka3 (i * 4) (kE xs)) = [iD (kQ xs i), dl (kZ xs i) (kX xs i), D.sl (kI (kL xs i)) (ka0 (kL xs i)), dl (qA xs i) (k8 xs i)]) ∧ (([iD (kQ xs i), dl (kZ xs i) (kX xs i), D.sl (kI (kL xs i)) (ka0 (kL xs i)), dl (qA xs i) (k8 xs i)] : List D).length = 4)) [(0, kG (kE xs) n), (4, oV 1 0 q 4), (5, uV i), (6, rV 2 0), (10, kG (kE xs) n), (11, uV n), (12, uV i)] [(1, some (59, .ds (kE o))), (2, some (59, (u1n xs i)))] 3 ⟨rfl, zo, (yV bM), rfl⟩ ?_
   rcases ka9 (goB xs i) with hx8 | hx8
   ·refine kO [.no, .no, .call [] (bV true) [] 0 [] none, .no] (Fun 39 [.c (.d (D.sl (kE xs) n)), uE i] (kH []) 0 (bV true) (kH []) 0) [(0, kG (kE xs) n), (4, oV 1 0 q 4), (6, rV 2 0), (10, kG (kE xs) n), (11, uV n), (12, uV i), (20, bV false)] (by have h0 := (u11 xs n i zo zo (qD : BsW xs) zo); rw [hx8] at h0; exact h0) ?_
    refine q8 ?_
    refine aH [.w, .no] ((-9223372036854775808) ≤ ((i : Int) + 1) ∧ ((i : Int) + 1) ≤ 9223372036854775807) [(0, kG (kE xs) n), (4, oV 1 0 q 4), (10, kG (kE xs) n), (11, uV n), (12, iV (↑i + 1))] [(1, some (59, .ds (kE o)))] 3 ⟨by omega, by omega⟩ ?_
    exact kW ⟨(((i + 1) : Nat), (q : Nat), (o : List Bx)), ⟨u9, (by first | exact u8w ho (by assumption) | exact u8x ho (by assumption)), (by first | omega | (simp only [qC, qB, ka6, kb0, kb1] <;> omega))⟩⟩ [] (P := (kM (kE xs)) ∧ (kJ n) ∧ (kJ 0) ∧ (kJ q) ∧ (kM (kE xs)) ∧ (kJ n) ∧ (kN (n : Int)) ∧ (((((i + 1) : Nat) : Int) : Int) = ((i : Int) + 1)) ∧ (kM (kE o))) zk ⟨rfl, rfl, rfl, rfl, rfl, rfl, rfl, bL, rfl⟩ (show n - (i + 1) < n - i from aC)
   ·refine kO [.no, .no, .call [] (bV false) [] 0 [] none, .no] (Fun 39 [.c (.d (D.sl (kE xs) n)), uE i] (kH []) 0 (bV false) (kH []) 0) [(0, kG (kE xs) n), (4, oV 1 0 q 4), (6, rV 2 0), (10, kG (kE xs) n), (11, uV n), (12, uV i), (20, bV true)] (by have h0 := (u11 xs n i zo zo (qD : BsW xs) zo); rw [hx8] at h0; exact h0) ?_
    refine zt ?_
    refine aH [.no, .no, .call [] (.e (.agg [iC (kQ xs i), .d (dl (kZ xs i) (kX xs i)), .d (D.sl (kI (kL xs i)) (ka0 (kL xs i))), .d (dl (qA xs i) (k8 xs i))])) [] 0 [] none, .no, .ap none (q + 1) (kE (o ++ ([(u7 (kQ xs i) (kZ xs i) (kX xs i) (kL xs i) (qA xs i) (k8 xs i))] : List Bx))), .no] ((_) ∧ ([iD (kQ xs i), dl (kZ xs i) (kX xs i), D.sl (kI (kL xs i)) (ka0 (kL xs i)), dl (qA xs i) (k8 xs i)].length = 1 * 4) ∧ (((kE o) : List D).length = q * 4) ∧ ((q + 1) * 80 ≤ 140737488355328) ∧ (q + 1 = (q + 1)) ∧ (((kE o) : List D) ++ [iD (kQ xs i), dl (kZ xs i) (kX xs i), D.sl (kI (kL xs i)) (ka0 (kL xs i)), dl (qA xs i) (k8 xs i)] = (kE (o ++ ([(u7 (kQ xs i) (kZ xs i) (kX xs i) (kL xs i) (qA xs i) (k8 xs i))] : List Bx))))) [(0, kG (kE xs) n), (4, oV 4 0 (q + 1) 4), (10, kG (kE xs) n), (11, uV n), (12, uV i)] [(4, some (59, .ds (kE (o ++ ([(u7 (kQ xs i) (kZ xs i) (kX xs i) (kL xs i) (qA xs i) (k8 xs i))] : List Bx)))))] 5 ⟨(u88 (kQ xs i) (kZ xs i) (kX xs i) (kL xs i) (ka0 (kL xs i)) (qA xs i) (k8 xs i) kR kR rfl kR kR kR (BsW.ms (qD : BsW xs) _)), vU, vU, zo, zo, (oD o (kQ xs i) (kZ xs i) (kX xs i) (kL xs i) (ka0 (kL xs i)) (qA xs i) (k8 xs i) (by first | rfl | omega))⟩ ?_
    refine uT [.w, .no] ((-9223372036854775808) ≤ ((i : Int) + 1) ∧ ((i : Int) + 1) ≤ 9223372036854775807) [(0, kG (kE xs) n), (4, oV 4 0 (q + 1) 4), (10, kG (kE xs) n), (11, uV n), (12, iV (↑i + 1))] ⟨by omega, by omega⟩ ?_
    exact kW ⟨(((i + 1) : Nat), ((q + 1) : Nat), ((o ++ ([(u7 (kQ xs i) (kZ xs i) (kX xs i) (kL xs i) (qA xs i) (k8 xs i))] : List Bx)) : List Bx)), ⟨u9, (by first | exact u8w ho (by assumption) | exact u8x ho (by assumption)), (by first | omega | (simp only [qC, qB, ka6, kb0, kb1] <;> omega))⟩⟩ [(1, 4)] (P := (kM (kE xs)) ∧ (kJ n) ∧ (kJ 0) ∧ (kJ (q + 1)) ∧ (kM (kE xs)) ∧ (kJ n) ∧ (kN (n : Int)) ∧ (((((i + 1) : Nat) : Int) : Int) = ((i : Int) + 1)) ∧ (kM (kE (o ++ ([(u7 (kQ xs i) (kZ xs i) (kX xs i) (kL xs i) (qA xs i) (k8 xs i))] : List Bx))))) zk ⟨rfl, rfl, rfl, rfl, rfl, rfl, rfl, bL, rfl⟩ (show n - (i + 1) < n - i from aC)
  ·refine kK [.b false] (¬ ((i : Int) < (n : Int))) [(0, kG (kE xs) n), (4, oV 1 0 q 4), (10, kG (kE xs) n), (11, uV n), (12, uV i), (13, bV false)] [(1, some (59, .ds (kE o)))] 2 zo ?_
   refine AW.seq ?_
   refine zf ?_
   refine AW.exit ?_
   refine kK [.no, .no, .no] True [(2, oV 1 0 q 4), (3, iV 0)] [(1, some (59, .ds (kE o)))] 2 trivial ?_
   refine AW.freeze 1 (l' := [(2, kG (kE o) q), (3, iV 0)]) (g' := []) rfl (FzS.cons rfl (.e (.c (@FzC.own 1 ((kE o) : List D) 0 q 4 true ((kE o) : List D) tB vU))) (FzS.cons rfl (.same _) FzS.nil)) FzG.nil ?_
   obtain ⟨hz1, hz2⟩ := k6l hx1
   have hz3 : x4 xs (ka0 xs) = o := by have h9 := ho; rw [show i = ka0 xs by omega] at h9; exact h9
   refine AW.ret ?_
   exact kA (.inr rfl) [] (P := (((kE (b7 xs)) : List D) = (kE o)) ∧ (((ka0 (b7 xs)) : Nat) = q) ∧ (((sB xs) : Int) = 0)) zk ⟨(by first | rfl | (rw [hz1]; rfl) | (rw [hz1, hz3]; done) | (rw [hz1, hz3]; rfl) | (rw [hz1, hz3]; omega) | (rw [hz2]; done) | exact hz2 | omega), (by first | rfl | (rw [hz1]; rfl) | (rw [hz1, hz3]; done) | (rw [hz1, hz3]; rfl) | (rw [hz1, hz3]; omega) | (rw [hz2]; done) | exact hz2 | omega), (by first | rfl | (rw [hz1]; rfl) | (rw [hz1, hz3]; done) | (rw [hz1, hz3]; rfl) | (rw [hz1, hz3]; omega) | (rw [hz2]; done) | exact hz2 | omega)⟩
 ·refine kO [.no, .call [] (bV false) [] 0 [] none, .no] (Fun 18 [.c (.d (D.sl (kE xs) n))] (kH []) 0 (bV false) (kH []) 0) [(0, kG (kE xs) n), (9, bV true)] (by have h0 := (bY xs n zo zo (qD : BsW xs)); rw [hx1] at h0; exact h0) ?_
  refine zt ?_
  refine kO [.no, .no] True [(2, nV), (3, iV 1)] trivial ?_
  obtain ⟨hz1, hz2⟩ := u91 hx1
  refine bG (l' := [(2, kG ([] : List D) 0), (3, iV 1)]) (g' := []) (NlS.cons rfl (.e (.c .nil)) (NlS.cons rfl (.same _) NlS.nil)) NlG.nil ?_
  refine AW.ret ?_
  exact kA (.inr rfl) [] (P := (((kE (b7 xs)) : List D) = ([] : List D)) ∧ (((ka0 (b7 xs)) : Nat) = 0) ∧ (((sB xs) : Int) = 1)) zk ⟨(by first | rfl | (rw [hz1]; rfl) | (rw [hz1, hz3]; done) | (rw [hz1, hz3]; rfl) | (rw [hz1, hz3]; omega) | (rw [hz2]; done) | exact hz2 | omega), (by first | rfl | (rw [hz1]; rfl) | (rw [hz1, hz3]; done) | (rw [hz1, hz3]; rfl) | (rw [hz1, hz3]; omega) | (rw [hz2]; done) | exact hz2 | omega), (by first | rfl | (rw [hz1]; rfl) | (rw [hz1, hz3]; done) | (rw [hz1, hz3]; rfl) | (rw [hz1, hz3]; omega) | (rw [hz2]; done) | exact hz2 | omega)⟩
theorem oJ {p : Prop} (h : p := by first | assumption | omega | (simp only [qC, qB, ka6, kb0, kb1] <;> omega)) : p := h
theorem u3o (l : List Int) (n : Nat) (v : Int) (hl : ka0 l = n * 2) (hb : n ≤ 1000000) (hv : -1 ≤ v ∧ v ≤ 2147483647) : Fun 129 [.agg [.d (D.sl (dI .i64 l) n)], iE v] (kH []) 0 (.e (.agg [.d (D.sl (dI .i64 (jO l v n)) (oF l v n))])) (kH []) 0 := by
 refine Fun.mk (n := 33) Tryz.func129 rfl rfl (ka4 rfl) ?_
 intro cx hcx
 refine kK [.no, .no] True [(1, iV v), (2, rV 0 0), (4, rV 1 0)] [(0, some (56, .ds [dl l n])), (1, some (56, .ds [qT]))] 2 trivial ?_
 refine kO [.no] True [(1, iV v), (2, rV 0 0), (4, rV 1 0), (5, nV)] trivial ?_
 refine AW.seq ?_
 refine kK (qE 4 []) True [(1, iV v), (4, rV 1 0), (5, nV), (9, sV .i64 l n), (10, uV n), (11, iV 0)] [(1, some (56, .ds [qT]))] 2 trivial ?_
 refine AW.block ?_
 refine AW.adoptS 5 2 77 rfl ?_
 refine kY 0 hcx (fun (x : {x : Nat × Nat × List Int // match x with | (k, q, o) => (k ≤ n ∧ q ≤ k) ∧ (jO l v k = o) ∧ (ka0 o = q * 2)}) => match x with | ⟨(k, q, o), _⟩ => (⟨[(1, iV v), (4, rV 1 0), (5, oV 3 0 q 2), (9, sV .i64 l n), (10, uV n), (11, uV k)], [(1, some (56, .ds [qT])), (3, some (77, .ds (dI .i64 o)))], 4⟩ : ES)) (fun x => match x with | ⟨(k, q, o), _⟩ => n - k) ⟨((0 : Nat), (0 : Nat), (([] : List Int) : List Int)), ⟨u9, rfl, rfl⟩⟩ [(3, 2)] (P := (kN v) ∧ (kJ 0) ∧ (kJ 0) ∧ (kJ 0) ∧ (kM (dI .i64 l)) ∧ (kJ n) ∧ (kN (n : Int)) ∧ (kN 0) ∧ (kM [qT]) ∧ (((dI .i64 ([] : List Int)) : List D) = ([] : List D))) zk ⟨rfl, rfl, rfl, rfl, rfl, rfl, rfl, rfl, rfl, (by first | rfl | with_reducible assumption)⟩ ?_
 rintro ⟨⟨k, q, o⟩, hinv0⟩
 obtain ⟨hk, ho, hq⟩ : (k ≤ n ∧ q ≤ k) ∧ (jO l v k = o) ∧ (ka0 o = q * 2) := hinv0
 refine qR (l := [(1, iV v), (4, rV 1 0), (5, oV 3 0 q 2), (9, sV .i64 l n), (10, uV n), (11, uV k)]) (g := [(1, some (56, .ds [qT])), (3, some (77, .ds (dI .i64 o)))]) (nx := 4) rfl rfl rfl ?_
 by_cases hx1 : (((k : Nat) : Int) < ((n : Nat) : Int))
 ·refine kK [.b true] (((k : Int) < (n : Int))) [(1, iV v), (4, rV 1 0), (5, oV 3 0 q 2), (9, sV .i64 l n), (10, uV n), (11, uV k), (12, bV true)] [(1, some (56, .ds [qT])), (3, some (77, .ds (dI .i64 o)))] 4 zo ?_
  refine AW.seq ?_
  refine vB ?_
  refine AW.seq ?_
  refine AW.block ?_
  refine kK [.n k, .ds [iD (ka1 l (k * 2) 0), iD (ka1 l ((k * 2) + 1) 0)], .no, .no] ((kN (k : Int)) ∧ (k < n) ∧ (ka5 2 (ka3 (k * 2) (dI .i64 l)) = [iD (ka1 l (k * 2) 0), iD (ka1 l ((k * 2) + 1) 0)]) ∧ (([iD (ka1 l (k * 2) 0), iD (ka1 l ((k * 2) + 1) 0)] : List D).length = 2)) [(1, iV v), (4, rV 1 0), (5, oV 3 0 q 2), (7, rV 4 0), (9, sV .i64 l n), (10, uV n), (11, uV k)] [(1, some (56, .ds [qT])), (3, some (77, .ds (dI .i64 o))), (4, some (77, .ds [iD (ka1 l (k * 2) 0), iD (ka1 l ((k * 2) + 1) 0)]))] 5 ⟨rfl, zo, (aM .i64 l (k * 2) 2 vU), rfl⟩ ?_
  by_cases hx2 : (v < (ka1 l ((k * 2) + 1) 0))
  ·refine kO [.no, .no, .no, .b true] ((v < (ka1 l ((k * 2) + 1) 0))) [(1, iV v), (4, rV 1 0), (5, oV 3 0 q 2), (7, rV 4 0), (9, sV .i64 l n), (10, uV n), (11, uV k), (18, bV true)] zo ?_
   refine zt ?_
   refine aH (qE 4 (.w :: qE 5 [.ap none (q + 1) (dI .i64 (o ++ ([(max (ka1 l (k * 2) 0) (v + 1)), (ka1 l ((k * 2) + 1) 0)] : List Int))), .no])) (((-9223372036854775808) ≤ (v + 1) ∧ (v + 1) ≤ 9223372036854775807) ∧ ([iD (max (ka1 l (k * 2) 0) (v + 1)), iD (ka1 l ((k * 2) + 1) 0)].length = 1 * 2) ∧ (((dI .i64 o) : List D).length = q * 2) ∧ ((q + 1) * 16 ≤ 140737488355328) ∧ (q + 1 = (q + 1)) ∧ (((dI .i64 o) : List D) ++ [iD (max (ka1 l (k * 2) 0) (v + 1)), iD (ka1 l ((k * 2) + 1) 0)] = (dI .i64 (o ++ ([(max (ka1 l (k * 2) 0) (v + 1)), (ka1 l ((k * 2) + 1) 0)] : List Int))))) [(1, iV v), (4, rV 1 0), (5, oV 6 0 (q + 1) 2), (9, sV .i64 l n), (10, uV n), (11, uV k)] [(1, some (56, .ds [qT])), (6, some (77, .ds (dI .i64 (o ++ ([(max (ka1 l (k * 2) 0) (v + 1)), (ka1 l ((k * 2) + 1) 0)] : List Int)))))] 7 ⟨⟨by omega, by omega⟩, vU, vU, zo, zo, (yN .i64 o ([(max (ka1 l (k * 2) 0) (v + 1)), (ka1 l ((k * 2) + 1) 0)] : List Int))⟩ ?_
   refine uT [.w, .no] ((-9223372036854775808) ≤ ((k : Int) + 1) ∧ ((k : Int) + 1) ≤ 9223372036854775807) [(1, iV v), (4, rV 1 0), (5, oV 6 0 (q + 1) 2), (9, sV .i64 l n), (10, uV n), (11, iV (↑k + 1))] ⟨by omega, by omega⟩ ?_
   exact kW ⟨(((k + 1) : Nat), ((q + 1) : Nat), ((o ++ ([(max (ka1 l (k * 2) 0) (v + 1)), (ka1 l ((k * 2) + 1) 0)] : List Int)) : List Int)), ⟨u9, (by first | exact v14 ho zo (by first | rfl | (rw [Int.max_def]; split <;> omega)) rfl | exact v15 ho zo), oJ⟩⟩ [(3, 6)] (P := (kN v) ∧ (kJ 0) ∧ (kJ 0) ∧ (kJ (q + 1)) ∧ (kM (dI .i64 l)) ∧ (kJ n) ∧ (kN (n : Int)) ∧ (((((k + 1) : Nat) : Int) : Int) = ((k : Int) + 1)) ∧ (kM [qT]) ∧ (kM (dI .i64 (o ++ ([(max (ka1 l (k * 2) 0) (v + 1)), (ka1 l ((k * 2) + 1) 0)] : List Int))))) zk ⟨rfl, rfl, rfl, rfl, rfl, rfl, rfl, bL, rfl, rfl⟩ (show n - (k + 1) < n - k from aC)
  ·refine kO [.no, .no, .no, .b false] (¬ (v < (ka1 l ((k * 2) + 1) 0))) [(1, iV v), (4, rV 1 0), (5, oV 3 0 q 2), (7, rV 4 0), (9, sV .i64 l n), (10, uV n), (11, uV k), (18, bV false)] zo ?_
   refine q8 ?_
   refine aH [.w, .no] ((-9223372036854775808) ≤ ((k : Int) + 1) ∧ ((k : Int) + 1) ≤ 9223372036854775807) [(1, iV v), (4, rV 1 0), (5, oV 3 0 q 2), (9, sV .i64 l n), (10, uV n), (11, iV (↑k + 1))] [(1, some (56, .ds [qT])), (3, some (77, .ds (dI .i64 o)))] 5 ⟨by omega, by omega⟩ ?_
   exact kW ⟨(((k + 1) : Nat), (q : Nat), (o : List Int)), ⟨u9, (by first | exact v14 ho zo (by first | rfl | (rw [Int.max_def]; split <;> omega)) rfl | exact v15 ho zo), oJ⟩⟩ [] (P := (kN v) ∧ (kJ 0) ∧ (kJ 0) ∧ (kJ q) ∧ (kM (dI .i64 l)) ∧ (kJ n) ∧ (kN (n : Int)) ∧ (((((k + 1) : Nat) : Int) : Int) = ((k : Int) + 1)) ∧ (kM [qT]) ∧ (kM (dI .i64 o))) zk ⟨rfl, rfl, rfl, rfl, rfl, rfl, rfl, bL, rfl, rfl⟩ (show n - (k + 1) < n - k from aC)
 ·refine kK [.b false] (¬ ((k : Int) < (n : Int))) [(1, iV v), (4, rV 1 0), (5, oV 3 0 q 2), (9, sV .i64 l n), (10, uV n), (11, uV k), (12, bV false)] [(1, some (56, .ds [qT])), (3, some (77, .ds (dI .i64 o)))] 4 zo ?_
  refine AW.seq ?_
  refine zf ?_
  refine AW.exit ?_
  refine kK [.no, .no, .no] True [(4, rV 1 0)] [(1, some (56, .cs [.own 3 0 q 2 true])), (3, some (77, .ds (dI .i64 o)))] 4 trivial ?_
  refine AW.freeze 3 (l' := [(4, rV 1 0)]) (g' := [(1, some (56, .ds [dl o q]))]) rfl (FzS.cons rfl (.same _) FzS.nil) (FzG.to (bc := .cs [.own 3 0 q 2 true]) rfl (by rfl) (FzL.cons (@FzC.own 3 ((dI .i64 o) : List D) 0 q 2 true ((dI .i64 o) : List D) tB vU) FzL.nil) FzG.nil) ?_
  have hz1 : jO l v n = o := by have h9 := ho; rw [show k = n by omega] at h9; exact h9
  have hz2 : oF l v n = q := by unfold oF; rw [hz1]; omega
  refine AW.ret ?_
  exact kA (.inr rfl) [] (P := (((dI .i64 (jO l v n)) : List D) = (dI .i64 o)) ∧ (((oF l v n) : Nat) = q)) zk ⟨(by first | rfl | (rw [hz1]; done) | exact hz2 | exact congrArg _ hz1 | omega), (by first | rfl | (rw [hz1]; done) | exact hz2 | exact congrArg _ hz1 | omega)⟩
theorem k1d {p : Prop} (h : p := by first | exact v01 (by omega) | exact v2h (by omega) | exact v2i (by omega) (by omega)) : p := h
theorem mY (a b : List Int) (n m : Nat) (ha : ka0 a = n * 2) (hb : ka0 b = m * 2) (h3 : n ≤ 1000000) (h4 : m ≤ 1000000) : Fun 85 [.agg [.d (D.sl (dI .i64 a) n)], .agg [.d (D.sl (dI .i64 b) m)]] (kH []) 0 (.tup [.agg [.d (D.sl (dI .i64 (uM (kC a n) (kC b m))) (qM (kC a n) (kC b m)))], .c (.d (D.lit (.bool (sM a n b m))))]) (kH []) 0 := by
 refine Fun.mk (n := 30) Tryz.func85 rfl rfl (ka4 rfl) ?_
 intro cx hcx
 refine kK (qE 4 []) True [(2, rV 0 0), (3, rV 1 0), (4, rV 2 0)] [(0, some (56, .ds [dl a n])), (1, some (56, .ds [dl b m])), (2, some (56, .ds [qT]))] 3 trivial ?_
 have hx1 : ((ka0 (uM (kC a n) (kC b m))) = ((qM (kC a n) (kC b m)) * 2)) := uR _ _
 have hx2 : ((qM (kC a n) (kC b m)) ≤ 64) := aO _ _
 refine kK [.no, .no, .call [] (.e (.agg [.d (dl (uM (kC a n) (kC b m)) (qM (kC a n) (kC b m)))])) [] 0 [] none, .no, .no] _ [(2, rV 0 0), (3, rV 1 0), (4, rV 2 0), (6, rV 3 0)] [(0, some (56, .ds [dl a n])), (1, some (56, .ds [dl b m])), (2, some (56, .ds [qT])), (3, some (56, .ds [dl (uM (kC a n) (kC b m)) (qM (kC a n) (kC b m))]))] 4 (iI a b n m zo zo zo zo) ?_
 refine AW.seq ?_
 by_cases hx3 : ((((qM (kC a n) (kC b m)) : Nat) : Int) < 64)
 ·refine kO [.no, .no, .no, .b true] (((qM (kC a n) (kC b m) : Int) < 64)) [(2, rV 0 0), (3, rV 1 0), (4, rV 2 0), (6, rV 3 0), (14, bV true)] zo ?_
  refine zt ?_
  refine kK [.no, .no, .no] True [(4, rV 2 0), (5, bV true)] [(2, some (56, .ds [dl (uM (kC a n) (kC b m)) (qM (kC a n) (kC b m))]))] 4 trivial ?_
  refine AW.ret ?_
  exact kA (.inr rfl) [] (P := (kM (dI .i64 (uM (kC a n) (kC b m)))) ∧ (kJ (qM (kC a n) (kC b m))) ∧ ((sM a n b m) = true)) zk ⟨rfl, rfl, k1d⟩
 ·refine kO [.no, .no, .no, .b false] (¬ ((qM (kC a n) (kC b m) : Int) < 64)) [(2, rV 0 0), (3, rV 1 0), (4, rV 2 0), (6, rV 3 0), (14, bV false)] zo ?_
  refine q8 ?_
  have hx4 : 0 ≤ ka1 (uM (kC a n) (kC b m)) 127 0 ∧ ka1 (uM (kC a n) (kC b m)) 127 0 ≤ 2147483647 := v0b ha hb zo
  have hx5 : ((ka0 (jO a (ka1 (uM (kC a n) (kC b m)) 127 0) n)) = ((oF a (ka1 (uM (kC a n) (kC b m)) 127 0) n) * 2)) := (u0j a (ka1 (uM (kC a n) (kC b m)) 127 0) n).1
  have hx6 : ((oF a (ka1 (uM (kC a n) (kC b m)) 127 0) n) ≤ n) := (u0j a (ka1 (uM (kC a n) (kC b m)) 127 0) n).2
  have hx7 : ((ka0 (uM (kC (jO a (ka1 (uM (kC a n) (kC b m)) 127 0) n) (oF a (ka1 (uM (kC a n) (kC b m)) 127 0) n)) (kC b m))) = ((qM (kC (jO a (ka1 (uM (kC a n) (kC b m)) 127 0) n) (oF a (ka1 (uM (kC a n) (kC b m)) 127 0) n)) (kC b m)) * 2)) := uR _ _
  have hx8 : ((qM (kC (jO a (ka1 (uM (kC a n) (kC b m)) 127 0) n) (oF a (ka1 (uM (kC a n) (kC b m)) 127 0) n)) (kC b m)) ≤ 64) := aO _ _
  refine kK [.no, .no, .no, .n 63, .no, .d (D.lit (.int .i64 (ka1 (uM (kC a n) (kC b m)) 127 0))), .call [] (.e (.agg [.d (dl (jO a (ka1 (uM (kC a n) (kC b m)) 127 0) n) (oF a (ka1 (uM (kC a n) (kC b m)) 127 0) n))])) [] 0 [] none, .no, .call [] (.e (.agg [.d (dl (uM (kC (jO a (ka1 (uM (kC a n) (kC b m)) 127 0) n) (oF a (ka1 (uM (kC a n) (kC b m)) 127 0) n)) (kC b m)) (qM (kC (jO a (ka1 (uM (kC a n) (kC b m)) 127 0) n) (oF a (ka1 (uM (kC a n) (kC b m)) 127 0) n)) (kC b m)))])) [] 0 [] none, .no, .no] ((kN 63) ∧ ((63 : Nat) < (qM (kC a n) (kC b m))) ∧ ((ka3 1 (ka3 126 (dI .i64 (uM (kC a n) (kC b m)))))[0]? = some (D.lit (.int .i64 (ka1 (uM (kC a n) (kC b m)) 127 0)))) ∧ (_) ∧ (_)) [(4, rV 2 0), (6, rV 3 0), (7, rV 4 0)] [(2, some (56, .ds [qT])), (3, some (56, .ds [dl (uM (kC a n) (kC b m)) (qM (kC a n) (kC b m))])), (4, some (56, .ds [dl (uM (kC (jO a (ka1 (uM (kC a n) (kC b m)) 127 0) n) (oF a (ka1 (uM (kC a n) (kC b m)) 127 0) n)) (kC b m)) (qM (kC (jO a (ka1 (uM (kC a n) (kC b m)) 127 0) n) (oF a (ka1 (uM (kC a n) (kC b m)) 127 0) n)) (kC b m))]))] 5 ⟨rfl, zo, (by first | (rw [kf2]; exact q6 _ _ _ vU) | (rw [kf2, Nat.add_comm]; exact q6 _ _ _ vU)), (u3o a n (ka1 (uM (kC a n) (kC b m)) 127 0) zo zo kR), (iI (jO a (ka1 (uM (kC a n) (kC b m)) 127 0) n) b (oF a (ka1 (uM (kC a n) (kC b m)) 127 0) n) m kR zo kR zo)⟩ ?_
  by_cases hx9 : ((((qM (kC (jO a (ka1 (uM (kC a n) (kC b m)) 127 0) n) (oF a (ka1 (uM (kC a n) (kC b m)) 127 0) n)) (kC b m)) : Nat) : Int) = 0)
  ·refine kK (qE 4 [.b true, .no, .no]) (((((qM (kC (jO a (ka1 (uM (kC a n) (kC b m)) 127 0) n) (oF a (ka1 (uM (kC a n) (kC b m)) 127 0) n)) (kC b m)) : Nat) : Int) = 0)) [(4, rV 2 0), (5, bV true)] [(2, some (56, .ds [dl (uM (kC a n) (kC b m)) (qM (kC a n) (kC b m))]))] 5 zo ?_
   refine AW.ret ?_
   exact kA (.inr rfl) [] (P := (kM (dI .i64 (uM (kC a n) (kC b m)))) ∧ (kJ (qM (kC a n) (kC b m))) ∧ ((sM a n b m) = true)) zk ⟨rfl, rfl, k1d⟩
  ·refine kK (qE 4 [.b false, .no, .no]) (¬ ((((qM (kC (jO a (ka1 (uM (kC a n) (kC b m)) 127 0) n) (oF a (ka1 (uM (kC a n) (kC b m)) 127 0) n)) (kC b m)) : Nat) : Int) = 0)) [(4, rV 2 0), (5, bV false)] [(2, some (56, .ds [dl (uM (kC a n) (kC b m)) (qM (kC a n) (kC b m))]))] 5 zo ?_
   refine AW.ret ?_
   exact kA (.inr rfl) [] (P := (kM (dI .i64 (uM (kC a n) (kC b m)))) ∧ (kJ (qM (kC a n) (kC b m))) ∧ ((sM a n b m) = false)) zk ⟨rfl, rfl, k1d⟩
theorem tA {p : Prop} (h : p := by first | exact u8h (by assumption) (by assumption) | exact v1s (by assumption) | exact v1r (by assumption)) : p := h
abbrev e7 : BC := .ds [iD 0, D.lit (.slice none 0 0), D.lit (.slice none 0 0), D.lit (.slice none 0 0)]
abbrev nX (k : Int) (k2 : Int) (r : List Int) (rn : Nat) (r2 : List Int) (rn2 : Nat) (m : List (List Int)) (m2 : List (List Int)) (c : Nat) (s : List Int) (sn : Nat) (s2 : List Int) (sn2 : Nat) : BC := .ds [iD (qK k k2), D.sl (dI .i64 (uM (kC r rn) (kC r2 rn2))) (qM (kC r rn) (kC r2 rn2)), D.sl (kI (uJ m m2 c)) (ka0 (uJ m m2 c)), D.sl (dI .i64 (uM (kC s sn) (kC s2 sn2))) (qM (kC s sn) (kC s2 sn2))]
abbrev gS (r : List Int) (rn : Nat) (r2 : List Int) (rn2 : Nat) : BC := .ds [D.sl (dI .i64 (uM (kC r rn) (kC r2 rn2))) (qM (kC r rn) (kC r2 rn2))]
theorem k4n (k : Int) (r : List Int) (rn : Nat) (m : List (List Int)) (c : Nat) (s : List Int) (sn : Nat) (k2 : Int) (r2 : List Int) (rn2 : Nat) (m2 : List (List Int)) (c2 : Nat) (s2 : List Int) (sn2 : Nat) (hr : ka0 r = rn * 2) (hs : ka0 s = sn * 2) (hc : ka0 m = c) (h1 : rn ≤ 1000000) (h2 : sn ≤ 1000000) (h3 : c ≤ 1000000) (hW : MsW m) (hr2 : ka0 r2 = rn2 * 2) (hs2 : ka0 s2 = sn2 * 2) (hc2 : ka0 m2 = c2) (h12 : rn2 ≤ 1000000) (h22 : sn2 ≤ 1000000) (h32 : c2 ≤ 1000000) (hW2 : MsW m2) : Fun 42 [.agg [iC k, .d (D.sl (dI .i64 r) rn), .d (D.sl (kI m) c), .d (D.sl (dI .i64 s) sn)], .agg [iC k2, .d (D.sl (dI .i64 r2) rn2), .d (D.sl (kI m2) c2), .d (D.sl (dI .i64 s2) sn2)]] (kH []) 0 (.tup [.agg [iC (qK k k2), .d (D.sl (dI .i64 (uM (kC r rn) (kC r2 rn2))) (qM (kC r rn) (kC r2 rn2))), .d (D.sl (kI (uJ m m2 c)) (ka0 (uJ m m2 c))), .d (D.sl (dI .i64 (uM (kC s sn) (kC s2 sn2))) (qM (kC s sn) (kC s2 sn2)))], .c (.d (D.lit (.bool (xsB r rn r2 rn2 s sn s2 sn2))))]) (kH []) 0 := by
 refine Fun.mk (n := 43) Tryz.func42 rfl rfl (ka4 rfl) ?_
 intro cx hcx
 refine kK (qE 4 []) True [(2, rV 0 0), (3, rV 1 0), (4, rV 2 0)] [(0, some (59, .ds [iD k, dl r rn, D.sl (kI m) c, dl s sn])), (1, some (59, .ds [iD k2, dl r2 rn2, D.sl (kI m2) c2, dl s2 sn2])), (2, some (59, e7))] 3 trivial ?_
 rcases ka9 (sM r rn r2 rn2) with hx1 | hx1
 ·have hx2 : ((ka0 (uM (kC r rn) (kC r2 rn2))) = ((qM (kC r rn) (kC r2 rn2)) * 2)) := uR _ _
  have hx3 : ((qM (kC r rn) (kC r2 rn2)) ≤ 64) := aO _ _
  refine kK (qE 4 (.call [] (.tup [.agg [.d (dl (uM (kC r rn) (kC r2 rn2)) (qM (kC r rn) (kC r2 rn2)))], .c (.d (D.lit (.bool true)))]) [] 0 [] none :: qE 6 [])) (Fun 85 [.agg [.d (dl r rn)], .agg [.d (dl r2 rn2)]] (kH []) 0 (.tup [.agg [.d (dl (uM (kC r rn) (kC r2 rn2)) (qM (kC r rn) (kC r2 rn2)))], .c (.d (D.lit (.bool true)))]) (kH []) 0) [(2, rV 0 0), (3, rV 1 0), (4, rV 2 0), (6, rV 3 0), (7, bV true)] [(0, some (59, .ds [iD k, dl r rn, D.sl (kI m) c, dl s sn])), (1, some (59, .ds [iD k2, dl r2 rn2, D.sl (kI m2) c2, dl s2 sn2])), (2, some (59, e7)), (3, some (56, (gS r rn r2 rn2)))] 4 (by have h0 := (mY r r2 rn rn2 zo zo zo zo); rw [hx1] at h0; exact h0) ?_
  rcases ka9 (sM s sn s2 sn2) with hx4 | hx4
  ·have hx5 : ((ka0 (uM (kC s sn) (kC s2 sn2))) = ((qM (kC s sn) (kC s2 sn2)) * 2)) := uR _ _
   have hx6 : ((qM (kC s sn) (kC s2 sn2)) ≤ 64) := aO _ _
   refine kK (qE 4 (.call [] (.tup [.agg [.d (dl (uM (kC s sn) (kC s2 sn2)) (qM (kC s sn) (kC s2 sn2)))], .c (.d (D.lit (.bool true)))]) [] 0 [] none :: qE 6 [])) (Fun 85 [.agg [.d (dl s sn)], .agg [.d (dl s2 sn2)]] (kH []) 0 (.tup [.agg [.d (dl (uM (kC s sn) (kC s2 sn2)) (qM (kC s sn) (kC s2 sn2)))], .c (.d (D.lit (.bool true)))]) (kH []) 0) [(2, rV 0 0), (3, rV 1 0), (4, rV 2 0), (6, rV 3 0), (7, bV true), (8, rV 4 0), (9, bV true)] [(0, some (59, .ds [iD k, dl r rn, D.sl (kI m) c, dl s sn])), (1, some (59, .ds [iD k2, dl r2 rn2, D.sl (kI m2) c2, dl s2 sn2])), (2, some (59, e7)), (3, some (56, (gS r rn r2 rn2))), (4, some (56, .ds [dl (uM (kC s sn) (kC s2 sn2)) (qM (kC s sn) (kC s2 sn2))]))] 5 (by have h0 := (mY s s2 sn sn2 zo zo zo zo); rw [hx4] at h0; exact h0) ?_
   have hx7 : ((ka0 (uJ m m2 c)) ≤ c) := bT m m2 c
   refine kK (qE 4 (.i (qK k k2) :: qE 5 (.call [] (kG (kI (uJ m m2 c)) (ka0 (uJ m m2 c))) [] 0 [] none :: qE 8 []))) ((qG .and .i64 k k2 = (qK k k2)) ∧ (_)) [(4, rV 2 0), (5, bV true)] [(2, some (59, (nX k k2 r rn r2 rn2 m m2 c s sn s2 sn2)))] 5 ⟨rfl, (k5y m m2 c c2 zo zo zo zo (qD : MsW m) (qD : MsW m2))⟩ ?_
   refine AW.ret ?_
   exact kA (.inr rfl) [] (P := (kN (qK k k2)) ∧ (kM (dI .i64 (uM (kC r rn) (kC r2 rn2)))) ∧ (kJ (qM (kC r rn) (kC r2 rn2))) ∧ (kM (kI (uJ m m2 c))) ∧ (kJ (ka0 (uJ m m2 c))) ∧ (kM (dI .i64 (uM (kC s sn) (kC s2 sn2)))) ∧ (kJ (qM (kC s sn) (kC s2 sn2))) ∧ ((xsB r rn r2 rn2 s sn s2 sn2) = true)) zk ⟨rfl, rfl, rfl, rfl, rfl, rfl, rfl, tA⟩
  ·have hx8 : ((ka0 (uM (kC s sn) (kC s2 sn2))) = ((qM (kC s sn) (kC s2 sn2)) * 2)) := uR _ _
   have hx9 : ((qM (kC s sn) (kC s2 sn2)) ≤ 64) := aO _ _
   refine kK (qE 4 (.call [] (.tup [.agg [.d (dl (uM (kC s sn) (kC s2 sn2)) (qM (kC s sn) (kC s2 sn2)))], .c (.d (D.lit (.bool false)))]) [] 0 [] none :: qE 6 [])) (Fun 85 [.agg [.d (dl s sn)], .agg [.d (dl s2 sn2)]] (kH []) 0 (.tup [.agg [.d (dl (uM (kC s sn) (kC s2 sn2)) (qM (kC s sn) (kC s2 sn2)))], .c (.d (D.lit (.bool false)))]) (kH []) 0) [(2, rV 0 0), (3, rV 1 0), (4, rV 2 0), (6, rV 3 0), (7, bV true), (8, rV 4 0), (9, bV false)] [(0, some (59, .ds [iD k, dl r rn, D.sl (kI m) c, dl s sn])), (1, some (59, .ds [iD k2, dl r2 rn2, D.sl (kI m2) c2, dl s2 sn2])), (2, some (59, e7)), (3, some (56, (gS r rn r2 rn2))), (4, some (56, .ds [dl (uM (kC s sn) (kC s2 sn2)) (qM (kC s sn) (kC s2 sn2))]))] 5 (by have h0 := (mY s s2 sn sn2 zo zo zo zo); rw [hx4] at h0; exact h0) ?_
   have hx10 : ((ka0 (uJ m m2 c)) ≤ c) := bT m m2 c
   refine kK (qE 4 (.i (qK k k2) :: qE 5 (.call [] (kG (kI (uJ m m2 c)) (ka0 (uJ m m2 c))) [] 0 [] none :: qE 8 []))) ((qG .and .i64 k k2 = (qK k k2)) ∧ (_)) [(4, rV 2 0), (5, bV false)] [(2, some (59, (nX k k2 r rn r2 rn2 m m2 c s sn s2 sn2)))] 5 ⟨rfl, (k5y m m2 c c2 zo zo zo zo (qD : MsW m) (qD : MsW m2))⟩ ?_
   refine AW.ret ?_
   exact kA (.inr rfl) [] (P := (kN (qK k k2)) ∧ (kM (dI .i64 (uM (kC r rn) (kC r2 rn2)))) ∧ (kJ (qM (kC r rn) (kC r2 rn2))) ∧ (kM (kI (uJ m m2 c))) ∧ (kJ (ka0 (uJ m m2 c))) ∧ (kM (dI .i64 (uM (kC s sn) (kC s2 sn2)))) ∧ (kJ (qM (kC s sn) (kC s2 sn2))) ∧ ((xsB r rn r2 rn2 s sn s2 sn2) = false)) zk ⟨rfl, rfl, rfl, rfl, rfl, rfl, rfl, tA⟩
 ·have hx11 : ((ka0 (uM (kC r rn) (kC r2 rn2))) = ((qM (kC r rn) (kC r2 rn2)) * 2)) := uR _ _
  have hx12 : ((qM (kC r rn) (kC r2 rn2)) ≤ 64) := aO _ _
  refine kK (qE 4 (.call [] (.tup [.agg [.d (dl (uM (kC r rn) (kC r2 rn2)) (qM (kC r rn) (kC r2 rn2)))], .c (.d (D.lit (.bool false)))]) [] 0 [] none :: qE 6 [])) (Fun 85 [.agg [.d (dl r rn)], .agg [.d (dl r2 rn2)]] (kH []) 0 (.tup [.agg [.d (dl (uM (kC r rn) (kC r2 rn2)) (qM (kC r rn) (kC r2 rn2)))], .c (.d (D.lit (.bool false)))]) (kH []) 0) [(2, rV 0 0), (3, rV 1 0), (4, rV 2 0), (6, rV 3 0), (7, bV false)] [(0, some (59, .ds [iD k, dl r rn, D.sl (kI m) c, dl s sn])), (1, some (59, .ds [iD k2, dl r2 rn2, D.sl (kI m2) c2, dl s2 sn2])), (2, some (59, e7)), (3, some (56, (gS r rn r2 rn2)))] 4 (by have h0 := (mY r r2 rn rn2 zo zo zo zo); rw [hx1] at h0; exact h0) ?_
  rcases ka9 (sM s sn s2 sn2) with hx13 | hx13
  ·have hx14 : ((ka0 (uM (kC s sn) (kC s2 sn2))) = ((qM (kC s sn) (kC s2 sn2)) * 2)) := uR _ _
   have hx15 : ((qM (kC s sn) (kC s2 sn2)) ≤ 64) := aO _ _
   refine kK (qE 4 (.call [] (.tup [.agg [.d (dl (uM (kC s sn) (kC s2 sn2)) (qM (kC s sn) (kC s2 sn2)))], .c (.d (D.lit (.bool true)))]) [] 0 [] none :: qE 6 [])) (Fun 85 [.agg [.d (dl s sn)], .agg [.d (dl s2 sn2)]] (kH []) 0 (.tup [.agg [.d (dl (uM (kC s sn) (kC s2 sn2)) (qM (kC s sn) (kC s2 sn2)))], .c (.d (D.lit (.bool true)))]) (kH []) 0) [(2, rV 0 0), (3, rV 1 0), (4, rV 2 0), (6, rV 3 0), (7, bV false), (8, rV 4 0), (9, bV true)] [(0, some (59, .ds [iD k, dl r rn, D.sl (kI m) c, dl s sn])), (1, some (59, .ds [iD k2, dl r2 rn2, D.sl (kI m2) c2, dl s2 sn2])), (2, some (59, e7)), (3, some (56, (gS r rn r2 rn2))), (4, some (56, .ds [dl (uM (kC s sn) (kC s2 sn2)) (qM (kC s sn) (kC s2 sn2))]))] 5 (by have h0 := (mY s s2 sn sn2 zo zo zo zo); rw [hx13] at h0; exact h0) ?_
   have hx16 : ((ka0 (uJ m m2 c)) ≤ c) := bT m m2 c
   refine kK (qE 4 (.i (qK k k2) :: qE 5 (.call [] (kG (kI (uJ m m2 c)) (ka0 (uJ m m2 c))) [] 0 [] none :: qE 7 []))) ((qG .and .i64 k k2 = (qK k k2)) ∧ (_)) [(4, rV 2 0), (5, bV false)] [(2, some (59, (nX k k2 r rn r2 rn2 m m2 c s sn s2 sn2)))] 5 ⟨rfl, (k5y m m2 c c2 zo zo zo zo (qD : MsW m) (qD : MsW m2))⟩ ?_
   refine AW.ret ?_
   exact kA (.inr rfl) [] (P := (kN (qK k k2)) ∧ (kM (dI .i64 (uM (kC r rn) (kC r2 rn2)))) ∧ (kJ (qM (kC r rn) (kC r2 rn2))) ∧ (kM (kI (uJ m m2 c))) ∧ (kJ (ka0 (uJ m m2 c))) ∧ (kM (dI .i64 (uM (kC s sn) (kC s2 sn2)))) ∧ (kJ (qM (kC s sn) (kC s2 sn2))) ∧ ((xsB r rn r2 rn2 s sn s2 sn2) = false)) zk ⟨rfl, rfl, rfl, rfl, rfl, rfl, rfl, tA⟩
  ·have hx17 : ((ka0 (uM (kC s sn) (kC s2 sn2))) = ((qM (kC s sn) (kC s2 sn2)) * 2)) := uR _ _
   have hx18 : ((qM (kC s sn) (kC s2 sn2)) ≤ 64) := aO _ _
   refine kK (qE 4 (.call [] (.tup [.agg [.d (dl (uM (kC s sn) (kC s2 sn2)) (qM (kC s sn) (kC s2 sn2)))], .c (.d (D.lit (.bool false)))]) [] 0 [] none :: qE 6 [])) (Fun 85 [.agg [.d (dl s sn)], .agg [.d (dl s2 sn2)]] (kH []) 0 (.tup [.agg [.d (dl (uM (kC s sn) (kC s2 sn2)) (qM (kC s sn) (kC s2 sn2)))], .c (.d (D.lit (.bool false)))]) (kH []) 0) [(2, rV 0 0), (3, rV 1 0), (4, rV 2 0), (6, rV 3 0), (7, bV false), (8, rV 4 0), (9, bV false)] [(0, some (59, .ds [iD k, dl r rn, D.sl (kI m) c, dl s sn])), (1, some (59, .ds [iD k2, dl r2 rn2, D.sl (kI m2) c2, dl s2 sn2])), (2, some (59, e7)), (3, some (56, (gS r rn r2 rn2))), (4, some (56, .ds [dl (uM (kC s sn) (kC s2 sn2)) (qM (kC s sn) (kC s2 sn2))]))] 5 (by have h0 := (mY s s2 sn sn2 zo zo zo zo); rw [hx13] at h0; exact h0) ?_
   have hx19 : ((ka0 (uJ m m2 c)) ≤ c) := bT m m2 c
   refine kK (qE 4 (.i (qK k k2) :: qE 5 (.call [] (kG (kI (uJ m m2 c)) (ka0 (uJ m m2 c))) [] 0 [] none :: qE 7 []))) ((qG .and .i64 k k2 = (qK k k2)) ∧ (_)) [(4, rV 2 0), (5, bV false)] [(2, some (59, (nX k k2 r rn r2 rn2 m m2 c s sn s2 sn2)))] 5 ⟨rfl, (k5y m m2 c c2 zo zo zo zo (qD : MsW m) (qD : MsW m2))⟩ ?_
   refine AW.ret ?_
   exact kA (.inr rfl) [] (P := (kN (qK k k2)) ∧ (kM (dI .i64 (uM (kC r rn) (kC r2 rn2)))) ∧ (kJ (qM (kC r rn) (kC r2 rn2))) ∧ (kM (kI (uJ m m2 c))) ∧ (kJ (ka0 (uJ m m2 c))) ∧ (kM (dI .i64 (uM (kC s sn) (kC s2 sn2)))) ∧ (kJ (qM (kC s sn) (kC s2 sn2))) ∧ ((xsB r rn r2 rn2 s sn s2 sn2) = false)) zk ⟨rfl, rfl, rfl, rfl, rfl, rfl, rfl, tA⟩
abbrev u5 (a : List Bx) (i : Nat) (b : List Bx) (j : Nat) := uM (kC (kZ a i) (kX a i)) (kC (kZ b j) (kX b j))
abbrev uX (a : List Bx) (i : Nat) (b : List Bx) (j : Nat) := qM (kC (kZ a i) (kX a i)) (kC (kZ b j) (kX b j))
abbrev qL (a : List Bx) (i : Nat) (b : List Bx) (j : Nat) := uJ (kL a i) (kL b j) (ka0 (kL a i))
abbrev u4 (a : List Bx) (i : Nat) (b : List Bx) (j : Nat) := uM (kC (qA a i) (k8 a i)) (kC (qA b j) (k8 b j))
abbrev uW (a : List Bx) (i : Nat) (b : List Bx) (j : Nat) := qM (kC (qA a i) (k8 a i)) (kC (qA b j) (k8 b j))
abbrev jW (a : List Bx) (i : Nat) (b : List Bx) (j : Nat) := u7 (qK (kQ a i) (kQ b j)) (u5 a i b j) (uX a i b j) (qL a i b j) (u4 a i b j) (uW a i b j)
abbrev a7 (a : List Bx) (i : Nat) : BC := .ds [iD (kQ a i), D.sl (dI .i64 (kZ a i)) (kX a i), D.sl (kI (kL a i)) (ka0 (kL a i)), D.sl (dI .i64 (qA a i)) (k8 a i)]
abbrev k2y (a : List Bx) (i : Nat) (b : List Bx) (j : Nat) : BC := .ds [iD (qK (kQ a i) (kQ b j)), D.sl (dI .i64 (u5 a i b j)) (uX a i b j), D.sl (kI (qL a i b j)) (ka0 (qL a i b j)), D.sl (dI .i64 (u4 a i b j)) (uW a i b j)]
theorem v1g (a b : List Bx) (n m : Nat) (hn : ka0 a = n) (hm : ka0 b = m) (h1 : n ≤ 1000) (h2 : m ≤ 1000) (hW : BsW a) (hV : BsW b) : Fun 16 [.c (.d (D.sl (kE a) n)), .c (.d (D.sl (kE b) m))] (kH []) 0 (.tup [.c (.d (D.sl (kE (d7 a b)) (ka0 (d7 a b)))), iE (mO a b)]) (kH []) 0 := by
 refine Fun.mk (n := 59) Tryz.func16 rfl rfl (ka4 rfl) ?_
 intro cx hcx
 refine kK [.no, .no] True [(0, kG (kE a) n), (1, kG (kE b) m)] [] 0 trivial ?_
 refine AW.seq ?_
 rcases ka9 (cQ a) with hx1 | hx1
 ·rcases ka9 (cQ b) with hx2 | hx2
  ·refine kO [.no, .call [] (bV true) [] 0 [] none, .no, .no, .no, .call [] (bV true) [] 0 [] none, .no, .no] ((Fun 18 [.c (.d (D.sl (kE a) n))] (kH []) 0 (bV true) (kH []) 0) ∧ (Fun 18 [.c (.d (D.sl (kE b) m))] (kH []) 0 (bV true) (kH []) 0)) [(0, kG (kE a) n), (1, kG (kE b) m), (20, bV false)] ⟨(by have h0 := (bY a n zo zo (qD : BsW a)); rw [hx1] at h0; exact h0), (by have h0 := (bY b m zo zo (qD : BsW b)); rw [hx2] at h0; exact h0)⟩ ?_
   refine q8 ?_
   refine kO [.no] True [(0, kG (kE a) n), (1, kG (kE b) m), (6, nV)] trivial ?_
   refine AW.seq ?_
   refine kO [.no, .no, .no] True [(1, kG (kE b) m), (6, nV), (21, kG (kE a) n), (22, uV n), (23, iV 0)] trivial ?_
   refine AW.block ?_
   refine AW.adoptS 6 4 59 rfl ?_
   refine kY 0 hcx (fun (x : {x : Nat × Nat × List Bx // match x with | (i, q, o) => (i ≤ n) ∧ (CI a b i o) ∧ (ka0 o = q ∧ q ≤ 64) ∧ (BsW o)}) => match x with | ⟨(i, q, o), _⟩ => (⟨[(1, kG (kE b) m), (6, oV 1 0 q 4), (21, kG (kE a) n), (22, uV n), (23, uV i)], [(1, some (59, .ds (kE o)))], 2⟩ : ES)) (fun x => match x with | ⟨(i, q, o), _⟩ => n - i) ⟨((0 : Nat), (0 : Nat), (([] : List Bx) : List Bx)), ⟨u9, CI.zero a b, ⟨rfl, by omega⟩, BsW.nil⟩⟩ [(1, 0)] (P := (kM (kE b)) ∧ (kJ m) ∧ (kJ 0) ∧ (kJ 0) ∧ (kM (kE a)) ∧ (kJ n) ∧ (kN (n : Int)) ∧ (kN 0) ∧ (((kE ([] : List Bx)) : List D) = ([] : List D))) zk ⟨rfl, rfl, rfl, rfl, rfl, rfl, rfl, rfl, (by first | rfl | with_reducible assumption)⟩ ?_
   rintro ⟨⟨i, q, o⟩, hinv0⟩
   obtain ⟨hi, hI, hq, hO⟩ : (i ≤ n) ∧ (CI a b i o) ∧ (ka0 o = q ∧ q ≤ 64) ∧ (BsW o) := hinv0
   refine qR (l := [(1, kG (kE b) m), (6, oV 1 0 q 4), (21, kG (kE a) n), (22, uV n), (23, uV i)]) (g := [(1, some (59, .ds (kE o)))]) (nx := 2) rfl rfl rfl ?_
   by_cases hx3 : (((i : Nat) : Int) < ((n : Nat) : Int))
   ·refine kK [.b true] (((i : Int) < (n : Int))) [(1, kG (kE b) m), (6, oV 1 0 q 4), (21, kG (kE a) n), (22, uV n), (23, uV i), (24, bV true)] [(1, some (59, .ds (kE o)))] 2 zo ?_
    refine AW.seq ?_
    refine vB ?_
    refine AW.seq ?_
    refine AW.block ?_
    obtain ⟨hx4, hx5, hx6, hx7, hx8⟩ := BsW.at (qD : BsW a) (i)
    refine kK [.n i, .ds [iD (kQ a i), dl (kZ a i) (kX a i), D.sl (kI (kL a i)) (ka0 (kL a i)), dl (qA a i) (k8 a i)], .no, .no] ((kN (i : Int)) ∧ (i < n) ∧ (ka5 4 (ka3 (i * 4) (kE a)) = [iD (kQ a i), dl (kZ a i) (kX a i), D.sl (kI (kL a i)) (ka0 (kL a i)), dl (qA a i) (k8 a i)]) ∧ (([iD (kQ a i), dl (kZ a i) (kX a i), D.sl (kI (kL a i)) (ka0 (kL a i)), dl (qA a i) (k8 a i)] : List D).length = 4)) [(1, kG (kE b) m), (6, oV 1 0 q 4), (8, rV 2 0), (21, kG (kE a) n), (22, uV n), (23, uV i)] [(1, some (59, .ds (kE o))), (2, some (59, (a7 a i)))] 3 ⟨rfl, zo, (yV bM), rfl⟩ ?_
    refine kO [.no, .no, .no] True [(1, kG (kE b) m), (6, oV 1 0 q 4), (8, rV 2 0), (21, kG (kE a) n), (22, uV n), (23, uV i), (27, kG (kE b) m), (28, uV m), (29, iV 0)] trivial ?_
    refine AW.block ?_
    refine kY 0 hcx (fun (x : {x : Nat × Nat × List Bx // match x with | (j, p, x) => (j ≤ m) ∧ (CJ2 a b i j x) ∧ (ka0 x = p ∧ p ≤ 64) ∧ (BsW x)}) => match x with | ⟨(j, p, x), _⟩ => (⟨[(1, kG (kE b) m), (6, oV 3 0 p 4), (8, rV 2 0), (21, kG (kE a) n), (22, uV n), (23, uV i), (27, kG (kE b) m), (28, uV m), (29, uV j)], [(3, some (59, .ds (kE x))), (2, some (59, (a7 a i)))], 4⟩ : ES)) (fun x => match x with | ⟨(j, p, x), _⟩ => m - j) ⟨((0 : Nat), (q : Nat), (o : List Bx)), ⟨u9, hI.in, (by first | assumption | omega), hO⟩⟩ [(3, 1)] (P := (kM (kE b)) ∧ (kJ m) ∧ (kJ 0) ∧ (kJ q) ∧ (kJ 0) ∧ (kM (kE a)) ∧ (kJ n) ∧ (kN (n : Int)) ∧ (kN (i : Int)) ∧ (kM (kE b)) ∧ (kJ m) ∧ (kN (m : Int)) ∧ (kN 0) ∧ (kM (kE o)) ∧ (kM [iD (kQ a i), dl (kZ a i) (kX a i), D.sl (kI (kL a i)) (ka0 (kL a i)), dl (qA a i) (k8 a i)])) zk ⟨rfl, rfl, rfl, rfl, rfl, rfl, rfl, rfl, rfl, rfl, rfl, rfl, rfl, rfl, rfl⟩ ?_
    rintro ⟨⟨j, p, x⟩, hinv1⟩
    obtain ⟨hj, hJ, hp, hX⟩ : (j ≤ m) ∧ (CJ2 a b i j x) ∧ (ka0 x = p ∧ p ≤ 64) ∧ (BsW x) := hinv1
    refine qR (l := [(1, kG (kE b) m), (6, oV 3 0 p 4), (8, rV 2 0), (21, kG (kE a) n), (22, uV n), (23, uV i), (27, kG (kE b) m), (28, uV m), (29, uV j)]) (g := [(3, some (59, .ds (kE x))), (2, some (59, (a7 a i)))]) (nx := 4) rfl rfl rfl ?_
    by_cases hx9 : (((j : Nat) : Int) < ((m : Nat) : Int))
    ·refine kK [.b true] (((j : Int) < (m : Int))) [(1, kG (kE b) m), (6, oV 3 0 p 4), (8, rV 2 0), (21, kG (kE a) n), (22, uV n), (23, uV i), (27, kG (kE b) m), (28, uV m), (29, uV j), (30, bV true)] [(2, some (59, (a7 a i))), (3, some (59, .ds (kE x)))] 4 zo ?_
     refine AW.seq ?_
     refine vB ?_
     refine AW.seq ?_
     refine AW.block ?_
     obtain ⟨hx10, hx11, hx12, hx13, hx14⟩ := BsW.at (qD : BsW b) (j)
     refine kK [.n j, .ds [iD (kQ b j), dl (kZ b j) (kX b j), D.sl (kI (kL b j)) (ka0 (kL b j)), dl (qA b j) (k8 b j)], .no, .no] ((kN (j : Int)) ∧ (j < m) ∧ (ka5 4 (ka3 (j * 4) (kE b)) = [iD (kQ b j), dl (kZ b j) (kX b j), D.sl (kI (kL b j)) (ka0 (kL b j)), dl (qA b j) (k8 b j)]) ∧ (([iD (kQ b j), dl (kZ b j) (kX b j), D.sl (kI (kL b j)) (ka0 (kL b j)), dl (qA b j) (k8 b j)] : List D).length = 4)) [(1, kG (kE b) m), (6, oV 3 0 p 4), (8, rV 2 0), (10, rV 4 0), (21, kG (kE a) n), (22, uV n), (23, uV i), (27, kG (kE b) m), (28, uV m), (29, uV j)] [(2, some (59, (a7 a i))), (3, some (59, .ds (kE x))), (4, some (59, .ds [iD (kQ b j), dl (kZ b j) (kX b j), D.sl (kI (kL b j)) (ka0 (kL b j)), dl (qA b j) (k8 b j)]))] 5 ⟨rfl, zo, (yV bM), rfl⟩ ?_
     rcases ka9 (xsB (kZ a i) (kX a i) (kZ b j) (kX b j) (qA a i) (k8 a i) (qA b j) (k8 b j)) with hx15 | hx15
     ·have hx16 : ((ka0 (qL a i b j)) ≤ (ka0 (kL a i))) := bT (kL a i) (kL b j) (ka0 (kL a i))
      have hx17 : ((ka0 (u5 a i b j)) = ((uX a i b j) * 2)) := uR _ _
      have hx18 : ((uX a i b j) ≤ 64) := aO _ _
      have hx19 : ((ka0 (u4 a i b j)) = ((uW a i b j) * 2)) := uR _ _
      have hx20 : ((uW a i b j) ≤ 64) := aO _ _
      have hx21 : (MsW (qL a i b j)) := nE ((BsW.ms (qD : BsW a) _)) _ _
      refine kK (.no :: .no :: .call [] (.tup [.agg [iC (qK (kQ a i) (kQ b j)), .d (dl (u5 a i b j) (uX a i b j)), .d (D.sl (kI (qL a i b j)) (ka0 (qL a i b j))), .d (dl (u4 a i b j) (uW a i b j))], .c (.d (D.lit (.bool true)))]) [] 0 [] none :: qE 6 []) (Fun 42 [.agg [iC (kQ a i), .d (dl (kZ a i) (kX a i)), .d (D.sl (kI (kL a i)) (ka0 (kL a i))), .d (dl (qA a i) (k8 a i))], .agg [iC (kQ b j), .d (dl (kZ b j) (kX b j)), .d (D.sl (kI (kL b j)) (ka0 (kL b j))), .d (dl (qA b j) (k8 b j))]] (kH []) 0 (.tup [.agg [iC (qK (kQ a i) (kQ b j)), .d (dl (u5 a i b j) (uX a i b j)), .d (D.sl (kI (qL a i b j)) (ka0 (qL a i b j))), .d (dl (u4 a i b j) (uW a i b j))], .c (.d (D.lit (.bool true)))]) (kH []) 0) [(1, kG (kE b) m), (6, oV 3 0 p 4), (8, rV 2 0), (11, rV 5 0), (12, bV true), (21, kG (kE a) n), (22, uV n), (23, uV i), (27, kG (kE b) m), (28, uV m), (29, uV j)] [(2, some (59, (a7 a i))), (3, some (59, .ds (kE x))), (5, some (59, (k2y a i b j)))] 6 (by have h0 := (k4n (kQ a i) (kZ a i) (kX a i) (kL a i) (ka0 (kL a i)) (qA a i) (k8 a i) (kQ b j) (kZ b j) (kX b j) (kL b j) (ka0 (kL b j)) (qA b j) (k8 b j) kR kR rfl kR kR kR (BsW.ms (qD : BsW a) _) kR kR rfl kR kR kR (BsW.ms (qD : BsW b) _)); rw [hx15] at h0; exact h0) ?_
      refine AW.seq ?_
      rcases ka9 (d5 (qK (kQ a i) (kQ b j)) (u5 a i b j) (uX a i b j) (qL a i b j) (u4 a i b j) (uW a i b j)) with hx22 | hx22
      ·refine kO [.no, .call [] (bV true) [] 0 [] none, .no] (Fun 43 [.agg [iC (qK (kQ a i) (kQ b j)), .d (dl (u5 a i b j) (uX a i b j)), .d (D.sl (kI (qL a i b j)) (ka0 (qL a i b j))), .d (dl (u4 a i b j) (uW a i b j))]] (kH []) 0 (bV true) (kH []) 0) [(1, kG (kE b) m), (6, oV 3 0 p 4), (8, rV 2 0), (11, rV 5 0), (12, bV true), (21, kG (kE a) n), (22, uV n), (23, uV i), (27, kG (kE b) m), (28, uV m), (29, uV j), (41, bV false)] (by have h0 := (mZ (qK (kQ a i) (kQ b j)) (u5 a i b j) (uX a i b j) (qL a i b j) (ka0 (qL a i b j)) (u4 a i b j) (uW a i b j) kR kR rfl kR kR kR (qD : MsW (qL a i b j))); rw [hx22] at h0; exact h0) ?_
       refine q8 ?_
       refine AW.seq ?_
       by_cases hx23 : (((p : Nat) : Int) = 64)
       ·refine kO (qE 5 [.b true, .no]) (((p : Int) = 64)) [(1, kG (kE b) m), (6, oV 3 0 p 4), (8, rV 2 0), (11, rV 5 0), (21, kG (kE a) n), (22, uV n), (23, uV i), (27, kG (kE b) m), (28, uV m), (29, uV j), (48, bV true)] zo ?_
        refine zt ?_
        refine kK [.no, .no] True [(4, nV), (5, iV 3)] [] 6 trivial ?_
        obtain ⟨hz1, hz2⟩ := v08 hx1 hx2 (k7z (i := i) (j := j) zo zo (by assumption) (by first | exact .inl (by assumption) | exact .inr (by rw [hJ.1]; omega)))
        refine bG (l' := [(4, kG ([] : List D) 0), (5, iV 3)]) (g' := []) (NlS.cons rfl (.e (.c .nil)) (NlS.cons rfl (.same _) NlS.nil)) NlG.nil ?_
        refine AW.ret ?_
        exact kA (.inr rfl) [] (P := (((kE (d7 a b)) : List D) = ([] : List D)) ∧ (((ka0 (d7 a b)) : Nat) = 0) ∧ (((mO a b) : Int) = 3)) zk ⟨(by first | rfl | exact hz2 | (rw [hz1]; done) | (rw [hz1]; rfl) | omega), (by first | rfl | exact hz2 | (rw [hz1]; done) | (rw [hz1]; rfl) | omega), (by first | rfl | exact hz2 | (rw [hz1]; done) | (rw [hz1]; rfl) | omega)⟩
       ·refine kO (qE 5 [.b false, .no]) (¬ ((p : Int) = 64)) [(1, kG (kE b) m), (6, oV 3 0 p 4), (8, rV 2 0), (11, rV 5 0), (21, kG (kE a) n), (22, uV n), (23, uV i), (27, kG (kE b) m), (28, uV m), (29, uV j), (48, bV false)] zo ?_
        refine q8 ?_
        refine aH [.no, .no, .no, .ap none (p + 1) (kE (x ++ ([(jW a i b j)] : List Bx))), .no] (([iD (qK (kQ a i) (kQ b j)), dl (u5 a i b j) (uX a i b j), D.sl (kI (qL a i b j)) (ka0 (qL a i b j)), dl (u4 a i b j) (uW a i b j)].length = 1 * 4) ∧ (((kE x) : List D).length = p * 4) ∧ ((p + 1) * 80 ≤ 140737488355328) ∧ (p + 1 = (p + 1)) ∧ (((kE x) : List D) ++ [iD (qK (kQ a i) (kQ b j)), dl (u5 a i b j) (uX a i b j), D.sl (kI (qL a i b j)) (ka0 (qL a i b j)), dl (u4 a i b j) (uW a i b j)] = (kE (x ++ ([(jW a i b j)] : List Bx))))) [(1, kG (kE b) m), (6, oV 7 0 (p + 1) 4), (8, rV 2 0), (21, kG (kE a) n), (22, uV n), (23, uV i), (27, kG (kE b) m), (28, uV m), (29, uV j)] [(2, some (59, (a7 a i))), (7, some (59, .ds (kE (x ++ ([(jW a i b j)] : List Bx)))))] 8 ⟨vU, vU, zo, zo, (oD x (qK (kQ a i) (kQ b j)) (u5 a i b j) (uX a i b j) (qL a i b j) (ka0 (qL a i b j)) (u4 a i b j) (uW a i b j) (by first | rfl | omega))⟩ ?_
        refine uT [.w, .no] ((-9223372036854775808) ≤ ((j : Int) + 1) ∧ ((j : Int) + 1) ≤ 9223372036854775807) [(1, kG (kE b) m), (6, oV 7 0 (p + 1) 4), (8, rV 2 0), (21, kG (kE a) n), (22, uV n), (23, uV i), (27, kG (kE b) m), (28, uV m), (29, iV (↑j + 1))] ⟨by omega, by omega⟩ ?_
        exact kW ⟨(((j + 1) : Nat), ((p + 1) : Nat), ((x ++ ([(jW a i b j)] : List Bx)) : List Bx)), ⟨u9, (by first | exact hJ.n (by assumption) | exact hJ.y (by assumption) (by assumption) zo), oJ, (by first | assumption | exact hX.app (BsW.one (u06 hW _ _)))⟩⟩ [(3, 7)] (P := (kM (kE b)) ∧ (kJ m) ∧ (kJ 0) ∧ (kJ (p + 1)) ∧ (kJ 0) ∧ (kM (kE a)) ∧ (kJ n) ∧ (kN (n : Int)) ∧ (kN (i : Int)) ∧ (kM (kE b)) ∧ (kJ m) ∧ (kN (m : Int)) ∧ (((((j + 1) : Nat) : Int) : Int) = ((j : Int) + 1)) ∧ (kM (kE (x ++ ([(jW a i b j)] : List Bx)))) ∧ (kM [iD (kQ a i), dl (kZ a i) (kX a i), D.sl (kI (kL a i)) (ka0 (kL a i)), dl (qA a i) (k8 a i)])) zk ⟨rfl, rfl, rfl, rfl, rfl, rfl, rfl, rfl, rfl, rfl, rfl, rfl, bL, rfl, rfl⟩ (show m - (j + 1) < m - j from aC)
      ·refine kO [.no, .call [] (bV false) [] 0 [] none, .no] (Fun 43 [.agg [iC (qK (kQ a i) (kQ b j)), .d (dl (u5 a i b j) (uX a i b j)), .d (D.sl (kI (qL a i b j)) (ka0 (qL a i b j))), .d (dl (u4 a i b j) (uW a i b j))]] (kH []) 0 (bV false) (kH []) 0) [(1, kG (kE b) m), (6, oV 3 0 p 4), (8, rV 2 0), (11, rV 5 0), (12, bV true), (21, kG (kE a) n), (22, uV n), (23, uV i), (27, kG (kE b) m), (28, uV m), (29, uV j), (41, bV true)] (by have h0 := (mZ (qK (kQ a i) (kQ b j)) (u5 a i b j) (uX a i b j) (qL a i b j) (ka0 (qL a i b j)) (u4 a i b j) (uW a i b j) kR kR rfl kR kR kR (qD : MsW (qL a i b j))); rw [hx22] at h0; exact h0) ?_
       refine zt ?_
       refine AW.exit ?_
       refine aH [.w, .no] ((-9223372036854775808) ≤ ((j : Int) + 1) ∧ ((j : Int) + 1) ≤ 9223372036854775807) [(1, kG (kE b) m), (6, oV 3 0 p 4), (8, rV 2 0), (21, kG (kE a) n), (22, uV n), (23, uV i), (27, kG (kE b) m), (28, uV m), (29, iV (↑j + 1))] [(2, some (59, (a7 a i))), (3, some (59, .ds (kE x)))] 6 ⟨by omega, by omega⟩ ?_
       exact kW ⟨(((j + 1) : Nat), (p : Nat), (x : List Bx)), ⟨u9, (by first | exact hJ.n (by assumption) | exact hJ.y (by assumption) (by assumption) zo), oJ, (by first | assumption | exact hX.app (BsW.one (u06 hW _ _)))⟩⟩ [] (P := (kM (kE b)) ∧ (kJ m) ∧ (kJ 0) ∧ (kJ p) ∧ (kJ 0) ∧ (kM (kE a)) ∧ (kJ n) ∧ (kN (n : Int)) ∧ (kN (i : Int)) ∧ (kM (kE b)) ∧ (kJ m) ∧ (kN (m : Int)) ∧ (((((j + 1) : Nat) : Int) : Int) = ((j : Int) + 1)) ∧ (kM (kE x)) ∧ (kM [iD (kQ a i), dl (kZ a i) (kX a i), D.sl (kI (kL a i)) (ka0 (kL a i)), dl (qA a i) (k8 a i)])) zk ⟨rfl, rfl, rfl, rfl, rfl, rfl, rfl, rfl, rfl, rfl, rfl, rfl, bL, rfl, rfl⟩ (show m - (j + 1) < m - j from aC)
     ·have hx24 : ((ka0 (qL a i b j)) ≤ (ka0 (kL a i))) := bT (kL a i) (kL b j) (ka0 (kL a i))
      have hx25 : ((ka0 (u5 a i b j)) = ((uX a i b j) * 2)) := uR _ _
      have hx26 : ((uX a i b j) ≤ 64) := aO _ _
      have hx27 : ((ka0 (u4 a i b j)) = ((uW a i b j) * 2)) := uR _ _
      have hx28 : ((uW a i b j) ≤ 64) := aO _ _
      have hx29 : (MsW (qL a i b j)) := nE ((BsW.ms (qD : BsW a) _)) _ _
      refine kK (.no :: .no :: .call [] (.tup [.agg [iC (qK (kQ a i) (kQ b j)), .d (dl (u5 a i b j) (uX a i b j)), .d (D.sl (kI (qL a i b j)) (ka0 (qL a i b j))), .d (dl (u4 a i b j) (uW a i b j))], .c (.d (D.lit (.bool false)))]) [] 0 [] none :: qE 6 []) (Fun 42 [.agg [iC (kQ a i), .d (dl (kZ a i) (kX a i)), .d (D.sl (kI (kL a i)) (ka0 (kL a i))), .d (dl (qA a i) (k8 a i))], .agg [iC (kQ b j), .d (dl (kZ b j) (kX b j)), .d (D.sl (kI (kL b j)) (ka0 (kL b j))), .d (dl (qA b j) (k8 b j))]] (kH []) 0 (.tup [.agg [iC (qK (kQ a i) (kQ b j)), .d (dl (u5 a i b j) (uX a i b j)), .d (D.sl (kI (qL a i b j)) (ka0 (qL a i b j))), .d (dl (u4 a i b j) (uW a i b j))], .c (.d (D.lit (.bool false)))]) (kH []) 0) [(1, kG (kE b) m), (6, oV 3 0 p 4), (8, rV 2 0), (11, rV 5 0), (12, bV false), (21, kG (kE a) n), (22, uV n), (23, uV i), (27, kG (kE b) m), (28, uV m), (29, uV j)] [(2, some (59, (a7 a i))), (3, some (59, .ds (kE x))), (5, some (59, (k2y a i b j)))] 6 (by have h0 := (k4n (kQ a i) (kZ a i) (kX a i) (kL a i) (ka0 (kL a i)) (qA a i) (k8 a i) (kQ b j) (kZ b j) (kX b j) (kL b j) (ka0 (kL b j)) (qA b j) (k8 b j) kR kR rfl kR kR kR (BsW.ms (qD : BsW a) _) kR kR rfl kR kR kR (BsW.ms (qD : BsW b) _)); rw [hx15] at h0; exact h0) ?_
      refine AW.seq ?_
      rcases ka9 (d5 (qK (kQ a i) (kQ b j)) (u5 a i b j) (uX a i b j) (qL a i b j) (u4 a i b j) (uW a i b j)) with hx30 | hx30
      ·refine kO [.no, .call [] (bV true) [] 0 [] none, .no] (Fun 43 [.agg [iC (qK (kQ a i) (kQ b j)), .d (dl (u5 a i b j) (uX a i b j)), .d (D.sl (kI (qL a i b j)) (ka0 (qL a i b j))), .d (dl (u4 a i b j) (uW a i b j))]] (kH []) 0 (bV true) (kH []) 0) [(1, kG (kE b) m), (6, oV 3 0 p 4), (8, rV 2 0), (11, rV 5 0), (12, bV false), (21, kG (kE a) n), (22, uV n), (23, uV i), (27, kG (kE b) m), (28, uV m), (29, uV j), (41, bV false)] (by have h0 := (mZ (qK (kQ a i) (kQ b j)) (u5 a i b j) (uX a i b j) (qL a i b j) (ka0 (qL a i b j)) (u4 a i b j) (uW a i b j) kR kR rfl kR kR kR (qD : MsW (qL a i b j))); rw [hx30] at h0; exact h0) ?_
       refine q8 ?_
       refine AW.seq ?_
       refine kO (qE 4 []) True [(1, kG (kE b) m), (6, oV 3 0 p 4), (8, rV 2 0), (11, rV 5 0), (21, kG (kE a) n), (22, uV n), (23, uV i), (27, kG (kE b) m), (28, uV m), (29, uV j), (48, bV true)] trivial ?_
       refine zt ?_
       refine kK [.no, .no] True [(4, nV), (5, iV 3)] [] 6 trivial ?_
       obtain ⟨hz1, hz2⟩ := v08 hx1 hx2 (k7z (i := i) (j := j) zo zo (by assumption) (by first | exact .inl (by assumption) | exact .inr (by rw [hJ.1]; omega)))
       refine bG (l' := [(4, kG ([] : List D) 0), (5, iV 3)]) (g' := []) (NlS.cons rfl (.e (.c .nil)) (NlS.cons rfl (.same _) NlS.nil)) NlG.nil ?_
       refine AW.ret ?_
       exact kA (.inr rfl) [] (P := (((kE (d7 a b)) : List D) = ([] : List D)) ∧ (((ka0 (d7 a b)) : Nat) = 0) ∧ (((mO a b) : Int) = 3)) zk ⟨(by first | rfl | exact hz2 | (rw [hz1]; done) | (rw [hz1]; rfl) | omega), (by first | rfl | exact hz2 | (rw [hz1]; done) | (rw [hz1]; rfl) | omega), (by first | rfl | exact hz2 | (rw [hz1]; done) | (rw [hz1]; rfl) | omega)⟩
      ·refine kO [.no, .call [] (bV false) [] 0 [] none, .no] (Fun 43 [.agg [iC (qK (kQ a i) (kQ b j)), .d (dl (u5 a i b j) (uX a i b j)), .d (D.sl (kI (qL a i b j)) (ka0 (qL a i b j))), .d (dl (u4 a i b j) (uW a i b j))]] (kH []) 0 (bV false) (kH []) 0) [(1, kG (kE b) m), (6, oV 3 0 p 4), (8, rV 2 0), (11, rV 5 0), (12, bV false), (21, kG (kE a) n), (22, uV n), (23, uV i), (27, kG (kE b) m), (28, uV m), (29, uV j), (41, bV true)] (by have h0 := (mZ (qK (kQ a i) (kQ b j)) (u5 a i b j) (uX a i b j) (qL a i b j) (ka0 (qL a i b j)) (u4 a i b j) (uW a i b j) kR kR rfl kR kR kR (qD : MsW (qL a i b j))); rw [hx30] at h0; exact h0) ?_
       refine zt ?_
       refine AW.exit ?_
       refine aH [.w, .no] ((-9223372036854775808) ≤ ((j : Int) + 1) ∧ ((j : Int) + 1) ≤ 9223372036854775807) [(1, kG (kE b) m), (6, oV 3 0 p 4), (8, rV 2 0), (21, kG (kE a) n), (22, uV n), (23, uV i), (27, kG (kE b) m), (28, uV m), (29, iV (↑j + 1))] [(2, some (59, (a7 a i))), (3, some (59, .ds (kE x)))] 6 ⟨by omega, by omega⟩ ?_
       exact kW ⟨(((j + 1) : Nat), (p : Nat), (x : List Bx)), ⟨u9, (by first | exact hJ.n (by assumption) | exact hJ.y (by assumption) (by assumption) zo), oJ, (by first | assumption | exact hX.app (BsW.one (u06 hW _ _)))⟩⟩ [] (P := (kM (kE b)) ∧ (kJ m) ∧ (kJ 0) ∧ (kJ p) ∧ (kJ 0) ∧ (kM (kE a)) ∧ (kJ n) ∧ (kN (n : Int)) ∧ (kN (i : Int)) ∧ (kM (kE b)) ∧ (kJ m) ∧ (kN (m : Int)) ∧ (((((j + 1) : Nat) : Int) : Int) = ((j : Int) + 1)) ∧ (kM (kE x)) ∧ (kM [iD (kQ a i), dl (kZ a i) (kX a i), D.sl (kI (kL a i)) (ka0 (kL a i)), dl (qA a i) (k8 a i)])) zk ⟨rfl, rfl, rfl, rfl, rfl, rfl, rfl, rfl, rfl, rfl, rfl, rfl, bL, rfl, rfl⟩ (show m - (j + 1) < m - j from aC)
    ·refine kK [.b false] (¬ ((j : Int) < (m : Int))) [(1, kG (kE b) m), (6, oV 3 0 p 4), (8, rV 2 0), (21, kG (kE a) n), (22, uV n), (23, uV i), (27, kG (kE b) m), (28, uV m), (29, uV j), (30, bV false)] [(2, some (59, (a7 a i))), (3, some (59, .ds (kE x)))] 4 zo ?_
     refine AW.seq ?_
     refine zf ?_
     refine AW.exit ?_
     refine aH [.w, .no] ((-9223372036854775808) ≤ ((i : Int) + 1) ∧ ((i : Int) + 1) ≤ 9223372036854775807) [(1, kG (kE b) m), (6, oV 3 0 p 4), (21, kG (kE a) n), (22, uV n), (23, iV (↑i + 1))] [(3, some (59, .ds (kE x)))] 4 ⟨by omega, by omega⟩ ?_
     exact kW ⟨(((i + 1) : Nat), (p : Nat), (x : List Bx)), ⟨u9, (hJ.out zo), (by first | assumption | omega), (by assumption)⟩⟩ [(1, 3)] (P := (kM (kE b)) ∧ (kJ m) ∧ (kJ 0) ∧ (kJ p) ∧ (kM (kE a)) ∧ (kJ n) ∧ (kN (n : Int)) ∧ (((((i + 1) : Nat) : Int) : Int) = ((i : Int) + 1)) ∧ (kM (kE x))) zk ⟨rfl, rfl, rfl, rfl, rfl, rfl, rfl, bL, rfl⟩ (show n - (i + 1) < n - i from aC)
   ·refine kK [.b false] (¬ ((i : Int) < (n : Int))) [(1, kG (kE b) m), (6, oV 1 0 q 4), (21, kG (kE a) n), (22, uV n), (23, uV i), (24, bV false)] [(1, some (59, .ds (kE o)))] 2 zo ?_
    refine AW.seq ?_
    refine zf ?_
    refine AW.exit ?_
    refine AW.freeze 1 (l' := [(1, kG (kE b) m), (6, kG (kE o) q), (21, kG (kE a) n), (22, uV n), (23, uV i), (24, bV false)]) (g' := []) rfl (FzS.cons rfl (.same _) (FzS.cons rfl (.e (.c (@FzC.own 1 ((kE o) : List D) 0 q 4 true ((kE o) : List D) tB vU))) (FzS.cons rfl (.same _) (FzS.cons rfl (.same _) (FzS.cons rfl (.same _) (FzS.cons rfl (.same _) FzS.nil)))))) FzG.nil ?_
    have hx31 : ((ka0 (b7 o)) ≤ q) := (ke2 (u5z o) (Nat.le_of_eq (zo)))
    have hx32 : (((0 : Int) ≤ (sB o)) ∧ ((sB o) ≤ 1)) := k39 o
    refine kK (.no :: .call [] (.tup [.c (.d (D.sl (kE (b7 o)) (ka0 (b7 o)))), iE (sB o)]) [] 0 [] none :: qE 4 []) _ [(4, kG (kE (b7 o)) (ka0 (b7 o))), (5, iV (sB o))] [] 2 (v1f o q zo zo (qD : BsW o)) ?_
    obtain ⟨hz1, hz2⟩ := v07 hx1 hx2 hI zo
    refine AW.ret ?_
    exact kA (.inr rfl) [] (P := (((kE (d7 a b)) : List D) = (kE (b7 o))) ∧ (((ka0 (d7 a b)) : Nat) = (ka0 (b7 o))) ∧ (((mO a b) : Int) = (sB o))) zk ⟨(by first | rfl | exact hz2 | (rw [hz1]; done) | (rw [hz1]; rfl) | omega), (by first | rfl | exact hz2 | (rw [hz1]; done) | (rw [hz1]; rfl) | omega), (by first | rfl | exact hz2 | (rw [hz1]; done) | (rw [hz1]; rfl) | omega)⟩
  ·refine kO [.no, .call [] (bV true) [] 0 [] none, .no, .no, .no, .call [] (bV false) [] 0 [] none, .no, .no] ((Fun 18 [.c (.d (D.sl (kE a) n))] (kH []) 0 (bV true) (kH []) 0) ∧ (Fun 18 [.c (.d (D.sl (kE b) m))] (kH []) 0 (bV false) (kH []) 0)) [(0, kG (kE a) n), (1, kG (kE b) m), (20, bV true)] ⟨(by have h0 := (bY a n zo zo (qD : BsW a)); rw [hx1] at h0; exact h0), (by have h0 := (bY b m zo zo (qD : BsW b)); rw [hx2] at h0; exact h0)⟩ ?_
   refine zt ?_
   refine kO [.no, .no] True [(4, nV), (5, iV 1)] trivial ?_
   obtain ⟨hz1, hz2⟩ := v2p hx2
   refine bG (l' := [(4, kG ([] : List D) 0), (5, iV 1)]) (g' := []) (NlS.cons rfl (.e (.c .nil)) (NlS.cons rfl (.same _) NlS.nil)) NlG.nil ?_
   refine AW.ret ?_
   exact kA (.inr rfl) [] (P := (((kE (d7 a b)) : List D) = ([] : List D)) ∧ (((ka0 (d7 a b)) : Nat) = 0) ∧ (((mO a b) : Int) = 1)) zk ⟨(by first | rfl | exact hz2 | (rw [hz1]; done) | (rw [hz1]; rfl) | omega), (by first | rfl | exact hz2 | (rw [hz1]; done) | (rw [hz1]; rfl) | omega), (by first | rfl | exact hz2 | (rw [hz1]; done) | (rw [hz1]; rfl) | omega)⟩
 ·refine kO [.no, .call [] (bV false) [] 0 [] none, .no, .no, .no] (Fun 18 [.c (.d (D.sl (kE a) n))] (kH []) 0 (bV false) (kH []) 0) [(0, kG (kE a) n), (1, kG (kE b) m), (20, bV true)] (by have h0 := (bY a n zo zo (qD : BsW a)); rw [hx1] at h0; exact h0) ?_
  refine zt ?_
  refine kO [.no, .no] True [(4, nV), (5, iV 1)] trivial ?_
  obtain ⟨hz1, hz2⟩ := v2q hx1
  refine bG (l' := [(4, kG ([] : List D) 0), (5, iV 1)]) (g' := []) (NlS.cons rfl (.e (.c .nil)) (NlS.cons rfl (.same _) NlS.nil)) NlG.nil ?_
  refine AW.ret ?_
  exact kA (.inr rfl) [] (P := (((kE (d7 a b)) : List D) = ([] : List D)) ∧ (((ka0 (d7 a b)) : Nat) = 0) ∧ (((mO a b) : Int) = 1)) zk ⟨(by first | rfl | exact hz2 | (rw [hz1]; done) | (rw [hz1]; rfl) | omega), (by first | rfl | exact hz2 | (rw [hz1]; done) | (rw [hz1]; rfl) | omega), (by first | rfl | exact hz2 | (rw [hz1]; done) | (rw [hz1]; rfl) | omega)⟩
end Go.Proofs.YtcfmjpnffembpaaGreat
