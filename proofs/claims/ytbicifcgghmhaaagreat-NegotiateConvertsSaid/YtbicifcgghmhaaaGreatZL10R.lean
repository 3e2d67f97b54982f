/- Reduced lists, intersections. No statement is proved here. -/
import Derived.Test.YtbicifcgghmhaaaGreatZL10Q
import Derived.Test.YtbicifcgghmhaaaGreatZL10G
namespace Go.Proofs.YtbicifcgghmhaaaGreat
open Go.ChangeShapes Go.WideShapes Go.ChangeAt Go.RowKit
open Bool renaming and_false → kc9, eq_false_or_eq_true → kb3, false_and → kh6, not_true → kl1, or_true → kn6
open List renaming drop → ka3, drop_drop → kc8, drop_zero → kd2, getD → ka1, getD_eq_getElem?_getD → ka8, getElem?_eq_getElem → ka7, length → ka0, length_append → ka6, length_cons → ka9, length_drop → kb2, length_map → kc3, length_nil → kb0, length_replicate → kb4, length_reverse → kc1, length_set → kb8, length_take → kb1, take → ka5, take_of_length_le → kb9
open Nat renaming le_of_ble_eq_true → ka4, le_trans → ke0, mul_one → kc7, zero_le → ke2
set_option linter.unusedVariables false
set_option linter.unusedSimpArgs false
/-! chapter 10: boxes within boxes; reduced lists; intersections -/
set_option maxHeartbeats 4000000
set_option maxRecDepth 100000
def o9 (a b : Int) : Int := qM .andNot .i64 a b
def nhB (ms : List (List Int)) (m : List Int) : Bool := !(iJ ms m)
theorem u72 {ms : List (List Int)} {m : List Int} (h : iJ ms m = false) : nhB ms m = true := by unfold nhB; rw [h]; rfl
theorem u73 {ms : List (List Int)} {m : List Int} (h : iJ ms m = true) : nhB ms m = false := by unfold nhB; rw [h]; rfl
def stK (a b : List (List Int)) : Nat → Int := lZ fun j => nhB b (ka1 a j [])
theorem u9l {a b : List (List Int)} {k : Nat} (h : stK a b k = -1) (h2 : nhB b (ka1 a k []) = false) : stK a b (k + 1) = -1 := cD h h2
theorem u3y {a b : List (List Int)} {k : Nat} (h : stK a b k = -1) (h2 : nhB b (ka1 a k []) = true) {n : Nat} (hn : k < n) : stK a b n = (k : Int) := eU h h2 n hn
def sgB (a b : List (List Int)) : Bool := decide (∃ m ∈ a, m ∉ b)
theorem u9s {a b : List (List Int)} {n : Nat} (hn : a.length = n) (h : 0 ≤ stK a b n) : sgB a b = true := by
 obtain ⟨k, hk, h1⟩ := pZ h
 have hk : k < a.length := by omega
 refine decide_eq_true ⟨a[k], List.getElem_mem hk, fun e => ?_⟩
 have e2 : ka1 a k [] = a[k] := by rw [ka8, ka7 hk]; rfl
 have h1 : nhB b (ka1 a k []) = true := h1
 rw [e2, u73 (decide_eq_true e)] at h1; cases h1
theorem u9t {a b : List (List Int)} {n : Nat} (hn : a.length = n) (h : ¬ 0 ≤ stK a b n) : sgB a b = false := by
 refine decide_eq_false fun ⟨m, hm, e⟩ => ?_
 obtain ⟨k, hk, rfl⟩ := List.mem_iff_getElem.1 hm
 have h1 := lH h k (by omega)
 have e2 : ka1 a k [] = a[k] := by rw [ka8, ka7 hk]; rfl
 have h1 : nhB b (ka1 a k []) = false := h1
 rw [e2, u72 (decide_eq_false e)] at h1; cases h1
def oZ (k : Int) (r : List Int) (rn : Nat) (m : List (List Int)) (s : List Int) (sn : Nat) (k2 : Int) (r2 : List Int) (rn2 : Nat) (m2 : List (List Int)) (s2 : List Int) (sn2 : Nat) : Bool := decide (o9 k k2 = 0) && (xZ (kB r rn) (kB r2 rn2) && (!(sgB m m2) && xZ (kB s sn) (kB s2 sn2)))
theorem v44 {k : Int} {r : List Int} {rn : Nat} {m : List (List Int)} {s : List Int} {sn : Nat} {k2 : Int} {r2 : List Int} {rn2 : Nat} {m2 : List (List Int)} {s2 : List Int} {sn2 : Nat} (h1 : o9 k k2 = 0) (h2 : xZ (kB r rn) (kB r2 rn2) = true) (h3 : sgB m m2 = false) (h4 : xZ (kB s sn) (kB s2 sn2) = true) : oZ k r rn m s sn k2 r2 rn2 m2 s2 sn2 = true := by
 unfold oZ; rw [decide_eq_true h1, h2, h3, h4]; rfl
theorem v48 {k : Int} {r : List Int} {rn : Nat} {m : List (List Int)} {s : List Int} {sn : Nat} {k2 : Int} {r2 : List Int} {rn2 : Nat} {m2 : List (List Int)} {s2 : List Int} {sn2 : Nat} (h1 : ¬ o9 k k2 = 0) : oZ k r rn m s sn k2 r2 rn2 m2 s2 sn2 = false := by
 unfold oZ; rw [decide_eq_false h1]; rfl
theorem v46 {k : Int} {r : List Int} {rn : Nat} {m : List (List Int)} {s : List Int} {sn : Nat} {k2 : Int} {r2 : List Int} {rn2 : Nat} {m2 : List (List Int)} {s2 : List Int} {sn2 : Nat} (h2 : xZ (kB r rn) (kB r2 rn2) = false) : oZ k r rn m s sn k2 r2 rn2 m2 s2 sn2 = false := by
 unfold oZ; rw [h2, kh6, kc9]
theorem v47 {k : Int} {r : List Int} {rn : Nat} {m : List (List Int)} {s : List Int} {sn : Nat} {k2 : Int} {r2 : List Int} {rn2 : Nat} {m2 : List (List Int)} {s2 : List Int} {sn2 : Nat} (h3 : sgB m m2 = true) : oZ k r rn m s sn k2 r2 rn2 m2 s2 sn2 = false := by
 unfold oZ; rw [h3, kl1, kh6, kc9, kc9]
theorem v45 {k : Int} {r : List Int} {rn : Nat} {m : List (List Int)} {s : List Int} {sn : Nat} {k2 : Int} {r2 : List Int} {rn2 : Nat} {m2 : List (List Int)} {s2 : List Int} {sn2 : Nat} (h4 : xZ (kB s sn) (kB s2 sn2) = false) : oZ k r rn m s sn k2 r2 rn2 m2 s2 sn2 = false := by
 unfold oZ; rw [h4, kc9, kc9, kc9]
def niE (xs : List Bx) (i : Nat) (ys : List Bx) (j : Nat) : Bool := oZ (kT xs i) (qE xs i) (k9 xs i) (kW xs i) (qD xs i) (k8 xs i) (kT ys j) (qE ys j) (k9 ys j) (kW ys j) (qD ys j) (k8 ys j)
def oK (xs : List Bx) (i j : Nat) : Bool := decide (j ≠ i) && (niE xs i xs j && (decide (j < i) || !(niE xs j xs i)))
def goB (xs : List Bx) (i : Nat) : Bool := decide (∃ j, j < xs.length ∧ oK xs i j = true)
theorem u7p {xs : List Bx} {i j : Nat} (hj : j < xs.length) (h : oK xs i j = true) : goB xs i = true := decide_eq_true ⟨j, hj, h⟩
theorem u2a {xs : List Bx} {i : Nat} (h : ∀ j, j < xs.length → oK xs i j = false) : goB xs i = false := decide_eq_false fun ⟨j, hj, e⟩ => by
 have := h j hj; rw [this] at e; cases e
theorem v4l {xs : List Bx} {i j : Nat} (h0 : ¬ j = i) (h1 : niE xs i xs j = true) (h2 : j < i) : oK xs i j = true := by
 unfold oK; rw [decide_eq_true h0, h1, decide_eq_true h2]; rfl
theorem v4k {xs : List Bx} {i j : Nat} (h0 : ¬ j = i) (h1 : niE xs i xs j = true) (h2 : niE xs j xs i = false) : oK xs i j = true := by
 unfold oK; rw [decide_eq_true h0, h1, h2, Bool.not_false, kn6]; rfl
theorem k80 {xs : List Bx} {i j : Nat} (h0 : j = i) : oK xs i j = false := by
 unfold oK; rw [decide_eq_false (fun e => e h0)]; rfl
theorem u7q {xs : List Bx} {i j : Nat} (h1 : niE xs i xs j = false) : oK xs i j = false := by
 unfold oK; rw [h1, kh6, kc9]
theorem u7r {xs : List Bx} {i j : Nat} (h1 : niE xs j xs i = true) (h2 : ¬ j < i) : oK xs i j = false := by
 unfold oK; rw [h1, decide_eq_false h2, kl1, Bool.or_false, kc9, kc9]
def bxP (xs : List Bx) (i : Nat) : Bx := kD (kT xs i) (qE xs i) (k9 xs i) (kW xs i) (qD xs i) (k8 xs i)
def pH (xs : List Bx) : Nat → List Bx
 | 0 => []
 | i + 1 => if goB xs i = true then pH xs i else pH xs i ++ [bxP xs i]
theorem u9z {xs o : List Bx} {i : Nat} (h : pH xs i = o) (h1 : goB xs i = true) : pH xs (i + 1) = o := by subst h; exact if_pos h1
theorem v00 {xs o : List Bx} {i : Nat} (h : pH xs i = o) (h1 : goB xs i = false) : pH xs (i + 1) = o ++ [kD (kT xs i) (qE xs i) (k9 xs i) (kW xs i) (qD xs i) (k8 xs i)] := by subst h; exact if_neg (by rw [h1]; decide)
def bE (xs : List Bx) : List Bx := if c8 xs = true then pH xs xs.length else []
def jO (xs : List Bx) : Int := if c8 xs = true then 0 else 1
theorem k64 {xs : List Bx} (h : c8 xs = true) : bE xs = pH xs xs.length ∧ jO xs = 0 := ⟨if_pos h, if_pos h⟩
theorem v03 {xs : List Bx} (h : c8 xs = false) : bE xs = [] ∧ jO xs = 1 := ⟨if_neg (by rw [h]; decide), if_neg (by rw [h]; decide)⟩
theorem k63 {xs : List Bx} (h : BsW xs) : ∀ i, BsW (pH xs i)
 | 0 => BsW.nil
 | i + 1 => by
  rw [pH]; split
  ·exact k63 h i
  ·exact (k63 h i).app (BsW.one (h.box i))
theorem k0p (xs : List Bx) : ∀ i, ka0 (pH xs i) ≤ i
 | 0 => Nat.le_refl _
 | i + 1 => by
  have := k0p xs i
  rw [pH]; split
  ·omega
  ·rw [ka6, List.length_singleton]; omega
theorem k65 {xs : List Bx} (h : BsW xs) : BsW (bE xs) := by unfold bE; split; exact k63 h _; exact BsW.nil
theorem nN (xs : List Bx) : ka0 (bE xs) ≤ ka0 xs := by unfold bE; split; exact k0p xs _; exact ke2 _
theorem iS (xs : List Bx) : 0 ≤ jO xs ∧ jO xs ≤ 1 := by unfold jO; split <;> decide
def eD (l : List Int) (v : Int) : Nat → List Int
 | 0 => []
 | k + 1 => if v < ka1 l (k * 2 + 1) 0 then eD l v k ++ [max (ka1 l (k * 2) 0) (v + 1), ka1 l (k * 2 + 1) 0] else eD l v k
def l3 (l : List Int) (v : Int) (k : Nat) : Nat := (eD l v k).length / 2
theorem v2h {l o : List Int} {v x y : Int} {k : Nat} (h : eD l v k = o) (h1 : v < ka1 l (k * 2 + 1) 0) (hx : x = max (ka1 l (k * 2) 0) (v + 1)) (hy : y = ka1 l (k * 2 + 1) 0) : eD l v (k + 1) = o ++ [x, y] := by subst h; rw [hx, hy]; exact if_pos h1
theorem v2i {l o : List Int} {v : Int} {k : Nat} (h : eD l v k = o) (h1 : ¬ v < ka1 l (k * 2 + 1) 0) : eD l v (k + 1) = o := by subst h; exact if_neg h1
theorem tZ (l : List Int) (v : Int) (k : Nat) : ka0 (eD l v k) = l3 l v k * 2 ∧ l3 l v k ≤ k := by
 have h : ∃ j, j ≤ k ∧ ka0 (eD l v k) = j * 2 := by
  induction k with
  | zero => exact ⟨0, Nat.le_refl _, rfl⟩
  | succ k ih =>
   obtain ⟨j, hj, e⟩ := ih
   rw [eD]; split
   ·exact ⟨j + 1, by omega, by rw [ka6, e]; simp only [ka9, kb0]; omega⟩
   ·exact ⟨j, by omega, e⟩
 obtain ⟨j, hj, e⟩ := h
 unfold l3; omega
def mI (r : List Int) (rn : Nat) (r2 : List Int) (rn2 : Nat) : Bool := decide (qT (kB r rn) (kB r2 rn2) < 64) || decide (qT (kB (eD r (ka1 (uN (kB r rn) (kB r2 rn2)) 127 0) rn) (l3 r (ka1 (uN (kB r rn) (kB r2 rn2)) 127 0) rn)) (kB r2 rn2) = 0)
theorem u7a {r : List Int} {rn : Nat} {r2 : List Int} {rn2 : Nat} (h : qT (kB r rn) (kB r2 rn2) < 64) : mI r rn r2 rn2 = true := by unfold mI; rw [decide_eq_true h]; rfl
theorem v49 {r : List Int} {rn : Nat} {r2 : List Int} {rn2 : Nat} (h : qT (kB (eD r (ka1 (uN (kB r rn) (kB r2 rn2)) 127 0) rn) (l3 r (ka1 (uN (kB r rn) (kB r2 rn2)) 127 0) rn)) (kB r2 rn2) = 0) : mI r rn r2 rn2 = true := by unfold mI; rw [decide_eq_true h, kn6]
theorem v4a {r : List Int} {rn : Nat} {r2 : List Int} {rn2 : Nat} (h1 : ¬ qT (kB r rn) (kB r2 rn2) < 64) (h : ¬ qT (kB (eD r (ka1 (uN (kB r rn) (kB r2 rn2)) 127 0) rn) (l3 r (ka1 (uN (kB r rn) (kB r2 rn2)) 127 0) rn)) (kB r2 rn2) = 0) : mI r rn r2 rn2 = false := by unfold mI; rw [decide_eq_false h, decide_eq_false h1]; rfl
theorem u4n {a b : List Int} {n m : Nat} (ha : a.length = n * 2) (hb : b.length = m * 2) : cB (qX (uN (kB a n) (kB b m))) := by
 unfold uN; rw [hY]
 have h := k32 (uQ ha) (uQ hb)
 have e := List.take_append_drop 64 (aU (qX (kB a n)) (qX (kB b m)))
 generalize ka5 64 (aU (qX (kB a n)) (qX (kB b m))) = t at *
 generalize ka3 64 (aU (qX (kB a n)) (qX (kB b m))) = d at *
 rw [← e] at h
 clear e
 induction t with
 | nil => trivial
 | cons p t ih => exact ⟨h.1, fun q hq => h.2.1 q (List.mem_append_left _ hq), ih h.2.2⟩
theorem v1a {a b : List Int} {n m : Nat} (ha : a.length = n * 2) (hb : b.length = m * 2) (h : 64 ≤ qT (kB a n) (kB b m)) : 0 ≤ ka1 (uN (kB a n) (kB b m)) 127 0 ∧ ka1 (uN (kB a n) (kB b m)) 127 0 ≤ 2147483647 := by
 have h1 := dC (u4n ha hb) _ ((yO (u4 (kB a n) (kB b m))).2 ⟨63, by omega, rfl⟩)
 unfold dW at h1
 have h1 : 0 ≤ ka1 (uN (kB a n) (kB b m)) 126 0 ∧ ka1 (uN (kB a n) (kB b m)) 126 0 ≤ ka1 (uN (kB a n) (kB b m)) 127 0 ∧ ka1 (uN (kB a n) (kB b m)) 127 0 ≤ 2147483647 := h1
 omega
def xsB (r : List Int) (rn : Nat) (r2 : List Int) (rn2 : Nat) (s : List Int) (sn : Nat) (s2 : List Int) (sn2 : Nat) : Bool := mI r rn r2 rn2 && mI s sn s2 sn2
theorem u68 {r : List Int} {rn : Nat} {r2 : List Int} {rn2 : Nat} {s : List Int} {sn : Nat} {s2 : List Int} {sn2 : Nat} (h1 : mI r rn r2 rn2 = true) (h2 : mI s sn s2 sn2 = true) : xsB r rn r2 rn2 s sn s2 sn2 = true := by unfold xsB; rw [h1, h2]; rfl
theorem v39 {r : List Int} {rn : Nat} {r2 : List Int} {rn2 : Nat} {s : List Int} {sn : Nat} {s2 : List Int} {sn2 : Nat} (h1 : mI r rn r2 rn2 = false) : xsB r rn r2 rn2 s sn s2 sn2 = false := by unfold xsB; rw [h1]; rfl
theorem v38 {r : List Int} {rn : Nat} {r2 : List Int} {rn2 : Nat} {s : List Int} {sn : Nat} {s2 : List Int} {sn2 : Nat} (h2 : mI s sn s2 sn2 = false) : xsB r rn r2 rn2 s sn s2 sn2 = false := by unfold xsB; rw [h2, kc9]
/-! the boxes made of each box of one list with each box of another one -/
def crB (xs ys : List Bx) (i j : Nat) : Bx := kD (qH (kT xs i) (kT ys j)) (uN (kB (qE xs i) (k9 xs i)) (kB (qE ys j) (k9 ys j))) (qT (kB (qE xs i) (k9 xs i)) (kB (qE ys j) (k9 ys j))) (u5 (kW xs i) (kW ys j) (ka0 (kW xs i))) (uN (kB (qD xs i) (k8 xs i)) (kB (qD ys j) (k8 ys j))) (qT (kB (qD xs i) (k8 xs i)) (kB (qD ys j) (k8 ys j)))
def crV (xs ys : List Bx) (i j : Nat) : Bool := gO (qH (kT xs i) (kT ys j)) (uN (kB (qE xs i) (k9 xs i)) (kB (qE ys j) (k9 ys j))) (qT (kB (qE xs i) (k9 xs i)) (kB (qE ys j) (k9 ys j))) (u5 (kW xs i) (kW ys j) (ka0 (kW xs i))) (uN (kB (qD xs i) (k8 xs i)) (kB (qD ys j) (k8 ys j))) (qT (kB (qD xs i) (k8 xs i)) (kB (qD ys j) (k8 ys j)))
def crS (xs ys : List Bx) (i j : Nat) : Bool := xsB (qE xs i) (k9 xs i) (qE ys j) (k9 ys j) (qD xs i) (k8 xs i) (qD ys j) (k8 ys j)
theorem k3c {xs ys : List Bx} (h : BsW xs) (i j : Nat) : BxW (crB xs ys i j) := by
 refine ⟨u4 _ _, u4 _ _, ke0 (aG _ _) (by decide), ke0 (aG _ _) (by decide), ?_, p7 (h.ms i) _ _⟩
 have h1 := cW (kW xs i) (kW ys j) (ka0 (kW xs i))
 have h2 := h.at i
 show ka0 (u5 _ _ _) ≤ _
 omega
def cjL (xs ys : List Bx) (i : Nat) (o : List Bx) : Nat → List Bx
 | 0 => o
 | j + 1 => if crV xs ys i j = true then cjL xs ys i o j ++ [crB xs ys i j] else cjL xs ys i o j
def ciL (xs ys : List Bx) : Nat → List Bx
 | 0 => []
 | i + 1 => cjL xs ys i (ciL xs ys i) (ka0 ys)
def ljB (xs ys : List Bx) (i : Nat) (b : Bool) : Nat → Bool
 | 0 => b
 | j + 1 => ljB xs ys i b j && (!(crV xs ys i j) || (crS xs ys i j && decide (ka0 (cjL xs ys i (ciL xs ys i) j) ≠ 64)))
def liB (xs ys : List Bx) : Nat → Bool
 | 0 => true
 | i + 1 => ljB xs ys i (liB xs ys i) (ka0 ys)
theorem k2y (xs ys : List Bx) (i : Nat) (b : Bool) (j : Nat) : ∀ k, ljB xs ys i b j = false → ljB xs ys i b (j + k) = false
 | 0, h => h
 | k + 1, h => by
  show (ljB xs ys i b (j + k) && _) = false
  rw [k2y xs ys i b j k h]; rfl
theorem v16 (xs ys : List Bx) (i : Nat) : ∀ k, ljB xs ys i false k = false
 | 0 => rfl
 | k + 1 => by
  show (ljB xs ys i false k && _) = false
  rw [v16 xs ys i k]; rfl
theorem k2z (xs ys : List Bx) (i : Nat) : ∀ k, liB xs ys i = false → liB xs ys (i + k) = false
 | 0, h => h
 | k + 1, h => by
  show ljB xs ys (i + k) (liB xs ys (i + k)) _ = false
  rw [k2z xs ys i k h]; exact v16 ..
theorem k7g {xs ys : List Bx} {i j : Nat} (hi : i < ka0 xs) (hj : j < ka0 ys) (h1 : crV xs ys i j = true) (h2 : crS xs ys i j = false ∨ ka0 (cjL xs ys i (ciL xs ys i) j) = 64) : liB xs ys (ka0 xs) = false := by
 have a1 : ljB xs ys i (liB xs ys i) (j + 1) = false := by
  show (_ && (!(crV xs ys i j) || _)) = false
  rw [h1]
  rcases h2 with h2 | h2
  ·rw [h2]; simp
  ·rw [h2]; simp
 have a2 := k2y xs ys i (liB xs ys i) (j + 1) (ka0 ys - (j + 1)) a1
 rw [show j + 1 + (ka0 ys - (j + 1)) = ka0 ys by omega] at a2
 have a3 := k2z xs ys (i + 1) (ka0 xs - (i + 1)) a2
 rw [show i + 1 + (ka0 xs - (i + 1)) = ka0 xs by omega] at a3
 exact a3
def CI (xs ys : List Bx) (i : Nat) (o : List Bx) : Prop := ciL xs ys i = o ∧ liB xs ys i = true
def CJ2 (xs ys : List Bx) (i j : Nat) (o : List Bx) : Prop := cjL xs ys i (ciL xs ys i) j = o ∧ ljB xs ys i (liB xs ys i) j = true
theorem CI.zero (xs ys : List Bx) : CI xs ys 0 [] := ⟨rfl, rfl⟩
theorem CI.in {xs ys : List Bx} {i : Nat} {o : List Bx} (h : CI xs ys i o) : CJ2 xs ys i 0 o := h
theorem CJ2.out {xs ys : List Bx} {i j : Nat} {o : List Bx} (h : CJ2 xs ys i j o) (hj : j = ka0 ys) : CI xs ys (i + 1) o := by subst hj; exact h
theorem CJ2.n {xs ys : List Bx} {i j : Nat} {o : List Bx} (h : CJ2 xs ys i j o) (h1 : crV xs ys i j = false) : CJ2 xs ys i (j + 1) o := by
 refine ⟨?_, ?_⟩
 ·show (if crV xs ys i j = true then _ else _) = o
  rw [if_neg (by rw [h1]; decide)]; exact h.1
 ·show (ljB xs ys i (liB xs ys i) j && _) = true
  rw [h.2, h1]; rfl
theorem CJ2.y {xs ys : List Bx} {i j : Nat} {o : List Bx} (h : CJ2 xs ys i j o) (h1 : crV xs ys i j = true) (h2 : crS xs ys i j = true) (h3 : ¬ ka0 o = 64) : CJ2 xs ys i (j + 1) (o ++ [crB xs ys i j]) := by
 refine ⟨?_, ?_⟩
 ·show (if crV xs ys i j = true then _ else _) = _
  rw [if_pos h1, h.1]
 ·show (ljB xs ys i (liB xs ys i) j && (!(crV xs ys i j) || (crS xs ys i j && decide _))) = true
  rw [h.2, h1, h2, h.1, decide_eq_true h3]; rfl
def ixV (a b : List Bx) : Bool := c8 a && c8 b
def yS (a b : List Bx) : List Bx := if ixV a b = true then (if liB a b (ka0 a) = true then bE (ciL a b (ka0 a)) else []) else []
def fD (a b : List Bx) : Int := if ixV a b = true then (if liB a b (ka0 a) = true then jO (ciL a b (ka0 a)) else 3) else 1
theorem v4h {a b : List Bx} (h : c8 a = false) : yS a b = [] ∧ fD a b = 1 := by unfold yS fD ixV; rw [h]; exact ⟨rfl, rfl⟩
theorem v4g {a b : List Bx} (h : c8 b = false) : yS a b = [] ∧ fD a b = 1 := by unfold yS fD ixV; rw [h, kc9]; exact ⟨rfl, rfl⟩
theorem v19 {a b : List Bx} (h1 : c8 a = true) (h2 : c8 b = true) (h : liB a b (ka0 a) = false) : yS a b = [] ∧ fD a b = 3 := by unfold yS fD ixV; rw [h1, h2, h]; exact ⟨rfl, rfl⟩
theorem k7o {a b o : List Bx} {i : Nat} (h1 : c8 a = true) (h2 : c8 b = true) (h : CI a b i o) (hi : i = ka0 a) : yS a b = bE o ∧ fD a b = jO o := by
 subst hi
 unfold yS fD ixV; rw [h1, h2, h.1, h.2]; exact ⟨rfl, rfl⟩
theorem u00 {xs ys : List Bx} (h : BsW xs) (i : Nat) {o : List Bx} (ho : BsW o) : ∀ j, BsW (cjL xs ys i o j)
 | 0 => ho
 | j + 1 => by
  rw [cjL]; split
  ·exact (u00 h i ho j).app (BsW.one (k3c h i j))
  ·exact u00 h i ho j
theorem u5c {xs ys : List Bx} (h : BsW xs) : ∀ i, BsW (ciL xs ys i)
 | 0 => BsW.nil
 | i + 1 => u00 h i (u5c h i) _
theorem u4m {a b : List Bx} (h : BsW a) : BsW (yS a b) := by
 unfold yS; split
 ·split
  ·exact k65 (u5c h _)
  ·exact BsW.nil
 ·exact BsW.nil
theorem s7 (a b : List Bx) : 0 ≤ fD a b ∧ fD a b ≤ 3 := by
 unfold fD; split
 ·split
  ·have := iS (ciL a b (ka0 a)); omega
  ·decide
 ·decide
theorem k0q (xs : List Bx) : ka0 (bE xs) ≤ 64 := by
 unfold bE; split
 ·rename_i h
  have h1 := (of_decide_eq_true h).1
  exact ke0 (k0p xs _) h1
 ·exact ke2 _
theorem s6 (a b : List Bx) : ka0 (yS a b) ≤ 64 := by
 unfold yS; split
 ·split
  ·exact k0q _
  ·exact ke2 _
 ·exact ke2 _
def siX (k r : Int) (m : List Int) (z : Int) : List Bx := [kD (IntKind.i64.wrap (1 * ((2 ^ k.toNat : Nat) : Int))) [r, r] 1 [m] [z, z] 1]
def qO (k r : Int) (m : List Int) (z : Int) : List Bx := if 1 ≤ k ∧ k ≤ 7 then kL (siX k r m z) else []
theorem u40 (k r : Int) (m : List Int) (z : Int) (h : ka0 m ≤ 1000000) : BsW (siX k r m z) := BsW.one ⟨rfl, rfl, (by decide : 1 ≤ 1000000), (by decide : 1 ≤ 1000000), (by decide : 1 ≤ 1000000), fun l hl => by rw [List.mem_singleton.1 hl]; exact h⟩
theorem u9q (k r : Int) (m : List Int) (z : Int) (h : ka0 m ≤ 1000000) : BsW (qO k r m z) := by
 unfold qO; split; exact eC (u40 k r m z h); exact BsW.nil
theorem k0l (k r : Int) (m : List Int) (z : Int) : ka0 (qO k r m z) ≤ 1 := by
 unfold qO; split; exact lM _; exact ke2 _
theorem k2r {m : List (List Int)} {z : Nat} (h : z < m.length) : kK (ka5 (z + 1) m) = kK (ka5 z m ++ [ka1 m z []]) := by
 rw [List.take_succ_eq_append_getElem h, ka8, ka7 h]; rfl
theorem u5u (a : List Int) (n : Nat) (k : Int) (r : List Int) (rn : Nat) (m : List (List Int)) (c : Nat) (s : List Int) (sn : Nat) (hn : ka0 a = n) (h1 : n ≤ 1000000) (hc : ka0 m = c) (h3 : c ≤ 1000000) (hW : MsW m) : Fun 130 [.c (.d (D.sl (dI .i64 a) n)), .c (.ptr 0 0)] (kF [(0, some (63, .ds [iD k, D.sl (dI .i64 r) rn, D.sl (kK m) c, D.sl (dI .i64 s) sn]))]) 1 (u1 (D.lit (.bool (nhB m a)))) (kF [(0, some (63, .ds [iD k, D.sl (dI .i64 r) rn, D.sl (kK m) c, D.sl (dI .i64 s) sn]))]) 1 := by
 refine Fun.mk (n := 9) Tryz.func130 rfl rfl (ka4 rfl) ?_
 intro cx hcx
 refine kI [.no] True [(0, sV .i64 a n), (1, rV 0 0)] [(0, some (63, .ds [iD k, dl r rn, D.sl (kK m) c, dl s sn]))] 1 trivial ?_
 rcases kb3 (iJ m a) with hx1 | hx1
 ·refine kS [.no, .no, .no, .call [] (bV true) [] 0 [] none, .no, .no] (Fun 126 [.c (.d (D.sl (kK m) c)), .c (.d (dl a n))] (kF []) 0 (bV true) (kF []) 0) [(3, bV false)] (by have h0 := (jM m c a n zo zo zo zo (qJ : MsW m)); rw [hx1] at h0; exact h0) ?_
  refine AW.ret ?_
  exact EndP.of (.inr rfl) [] (P := ((nhB m a) = false) ∧ (kM [iD k, dl r rn, D.sl (kK m) c, dl s sn])) zk ⟨(by first | exact u72 (by assumption) | exact u73 (by assumption)), rfl⟩
 ·refine kS [.no, .no, .no, .call [] (bV false) [] 0 [] none, .no, .no] (Fun 126 [.c (.d (D.sl (kK m) c)), .c (.d (dl a n))] (kF []) 0 (bV false) (kF []) 0) [(3, bV true)] (by have h0 := (jM m c a n zo zo zo zo (qJ : MsW m)); rw [hx1] at h0; exact h0) ?_
  refine AW.ret ?_
  exact EndP.of (.inr rfl) [] (P := ((nhB m a) = true) ∧ (kM [iD k, dl r rn, D.sl (kK m) c, dl s sn])) zk ⟨(by first | exact u72 (by assumption) | exact u73 (by assumption)), rfl⟩
theorem yE {p : Prop} (h : p := by first | omega | assumption | simp) : p := h
theorem bG {p : Prop} (h : p := by first | omega | (simp only [kZ, kY, ka6, ka9, kb0, kb1, kb2] <;> omega)) : p := h
theorem kN {p : Prop} (h : p := by first | omega | with_reducible assumption | (simp only [kZ, kY, ka6, ka9, kb0, kb1, kb2, kb4, kb8] <;> omega) | rfl | assumption) : p := h
theorem bF {p : Prop} (h : p := by first | rfl | omega | assumption | (simp; done) | (simp; omega)) : p := h
theorem vW {p : Prop} (h : p := by first | omega | (show _ < _; simp; omega)) : p := h
abbrev bZ (k : Int) (r : List Int) (rn : Nat) (m : List (List Int)) (c : Nat) (s : List Int) (sn : Nat) : BC := .ds [iD k, D.sl (dI .i64 r) rn, D.sl (kK m) c, D.sl (dI .i64 s) sn]
theorem u5t (a : List (List Int)) (n : Nat) (k : Int) (r : List Int) (rn : Nat) (m : List (List Int)) (c : Nat) (s : List Int) (sn : Nat) (hn : ka0 a = n) (h1 : n ≤ 1000000) (hA : MsW a) (hc : ka0 m = c) (h3 : c ≤ 1000000) (hW : MsW m) : Fun 159 [.c (.d (D.sl (kK a) n)), .c (.fn 130 [(0, 0)])] (kF [(0, some (63, .ds [iD k, D.sl (dI .i64 r) rn, D.sl (kK m) c, D.sl (dI .i64 s) sn]))]) 1 (iV (stK a m n)) (kF [(0, some (63, .ds [iD k, D.sl (dI .i64 r) rn, D.sl (kK m) c, D.sl (dI .i64 s) sn]))]) 1 := by
 refine Fun.mk (n := 19) Tryz.func159 rfl rfl (ka4 rfl) ?_
 intro cx hcx
 refine kI [.no] True [(0, qK (kK a) n), (1, .e (.c (.fn 130 [(0, 0)])))] [(0, some (63, (bZ k r rn m c s sn)))] 1 trivial ?_
 refine AW.seq ?_
 refine kS [.no, .no, .no] True [(0, qK (kK a) n), (1, .e (.c (.fn 130 [(0, 0)]))), (7, uV n), (8, iV 0)] trivial ?_
 refine AW.block ?_
 refine qF 1 hcx (fun (x : {x : Nat // match x with | z => (z ≤ n) ∧ (stK a m z = -1)}) => match x with | ⟨z, _⟩ => (⟨[(0, qK (kK a) n), (1, .e (.c (.fn 130 [(0, 0)]))), (7, uV n), (8, uV z)], [(0, some (63, (bZ k r rn m c s sn)))], 1⟩ : ES)) (fun x => match x with | ⟨z, _⟩ => n - z) ⟨(0 : Nat), ⟨yE, rfl⟩⟩ [] (P := (kM (kK a)) ∧ (kH n) ∧ (kP (n : Int)) ∧ (kP 0) ∧ (kM [iD k, dl r rn, D.sl (kK m) c, dl s sn])) zk ⟨rfl, rfl, rfl, rfl, rfl⟩ ?_
 rintro ⟨z, hinv0⟩
 obtain ⟨hk, hi⟩ : (z ≤ n) ∧ (stK a m z = -1) := hinv0
 refine uG (l := [(0, qK (kK a) n), (1, .e (.c (.fn 130 [(0, 0)]))), (7, uV n), (8, uV z)]) (g := [(0, some (63, (bZ k r rn m c s sn)))]) (nx := 1) rfl rfl rfl ?_
 by_cases hx1 : (((z : Nat) : Int) < ((n : Nat) : Int))
 ·refine kI [.b true] (((z : Int) < (n : Int))) [(0, qK (kK a) n), (1, .e (.c (.fn 130 [(0, 0)]))), (7, uV n), (8, uV z), (9, bV true)] [(0, some (63, (bZ k r rn m c s sn)))] 1 zo ?_
  refine AW.seq ?_
  refine vO ?_
  refine AW.seq ?_
  refine AW.block ?_
  refine kS [.no, .no] True [(0, qK (kK a) n), (1, .e (.c (.fn 130 [(0, 0)]))), (5, uV z), (7, uV n), (8, uV z)] trivial ?_
  rcases kb3 (nhB m (ka1 a z ([] : List Int))) with hx3 | hx3
  ·have hx4 : ((ka0 (ka1 a z ([] : List Int))) ≤ 1000000) := MsW.at (qJ : MsW a) _
   refine kS [.no, .no, .no, .n z, .d (dl (ka1 a z ([] : List Int)) (ka0 (ka1 a z ([] : List Int)))), .call [0] (bV true) [(0, some (63, (bZ k r rn m c s sn)))] 1 [] none] ((kP (z : Int)) ∧ (z < n) ∧ ((ka3 z (kK a))[0]? = some (dl (ka1 a z ([] : List Int)) (ka0 (ka1 a z ([] : List Int))))) ∧ (Fun 130 [.c (.d (dl (ka1 a z ([] : List Int)) (ka0 (ka1 a z ([] : List Int))))), .c (.ptr 0 0)] (kF [(0, some (63, (bZ k r rn m c s sn)))]) 1 (bV true) (kF [(0, some (63, (bZ k r rn m c s sn)))]) 1)) [(0, qK (kK a) n), (1, .e (.c (.fn 130 [(0, 0)]))), (5, uV z), (7, uV n), (8, uV z), (16, bV true)] ⟨rfl, zo, (bK _ _ bG), (by have h0 := (u5u (ka1 a z ([] : List Int)) (ka0 (ka1 a z ([] : List Int))) k r rn m c s sn rfl kN zo zo (qJ : MsW m)); rw [hx3] at h0; exact h0)⟩ ?_
   refine zt ?_
   refine kS [.no, .no] True [(4, uV z)] trivial ?_
   refine AW.ret ?_
   exact EndP.of (.inr rfl) [] (P := (((stK a m n) : Int) = (z : Int)) ∧ (kM [iD k, dl r rn, D.sl (kK m) c, dl s sn])) zk ⟨(by first | rfl | exact u3y hi (by assumption) zo | (rw [show n = z by omega]; exact hi) | omega), rfl⟩
  ·have hx5 : ((ka0 (ka1 a z ([] : List Int))) ≤ 1000000) := MsW.at (qJ : MsW a) _
   refine kS [.no, .no, .no, .n z, .d (dl (ka1 a z ([] : List Int)) (ka0 (ka1 a z ([] : List Int)))), .call [0] (bV false) [(0, some (63, (bZ k r rn m c s sn)))] 1 [] none] ((kP (z : Int)) ∧ (z < n) ∧ ((ka3 z (kK a))[0]? = some (dl (ka1 a z ([] : List Int)) (ka0 (ka1 a z ([] : List Int))))) ∧ (Fun 130 [.c (.d (dl (ka1 a z ([] : List Int)) (ka0 (ka1 a z ([] : List Int))))), .c (.ptr 0 0)] (kF [(0, some (63, (bZ k r rn m c s sn)))]) 1 (bV false) (kF [(0, some (63, (bZ k r rn m c s sn)))]) 1)) [(0, qK (kK a) n), (1, .e (.c (.fn 130 [(0, 0)]))), (5, uV z), (7, uV n), (8, uV z), (16, bV false)] ⟨rfl, zo, (bK _ _ bG), (by have h0 := (u5u (ka1 a z ([] : List Int)) (ka0 (ka1 a z ([] : List Int))) k r rn m c s sn rfl kN zo zo (qJ : MsW m)); rw [hx3] at h0; exact h0)⟩ ?_
   refine u9 ?_
   refine yK [.w, .no] (yF ((z : Int) + 1)) [(0, qK (kK a) n), (1, .e (.c (.fn 130 [(0, 0)]))), (7, uV n), (8, iV (↑z + 1))] ⟨by omega, by omega⟩ ?_
   exact Rd.of ⟨((z + 1) : Nat), ⟨yE, (u9l hi (by assumption))⟩⟩ [] (P := (kM (kK a)) ∧ (kH n) ∧ (kP (n : Int)) ∧ (cU z) ∧ (kM [iD k, dl r rn, D.sl (kK m) c, dl s sn])) zk ⟨rfl, rfl, rfl, bF, rfl⟩ (show n - (z + 1) < n - z from vW)
 ·refine kI [.b false] (¬ ((z : Int) < (n : Int))) [(0, qK (kK a) n), (1, .e (.c (.fn 130 [(0, 0)]))), (7, uV n), (8, uV z), (9, bV false)] [(0, some (63, (bZ k r rn m c s sn)))] 1 zo ?_
  refine AW.seq ?_
  refine zf ?_
  refine AW.exit ?_
  refine kI [.no] True [(4, iV (-1))] [(0, some (63, (bZ k r rn m c s sn)))] 1 trivial ?_
  refine AW.ret ?_
  exact EndP.of (.inr rfl) [] (P := (((stK a m n) : Int) = (-1)) ∧ (kM [iD k, dl r rn, D.sl (kK m) c, dl s sn])) zk ⟨(by first | rfl | exact u3y hi (by assumption) zo | (rw [show n = z by omega]; exact hi) | omega), rfl⟩
theorem u0w (a : List (List Int)) (n : Nat) (k : Int) (r : List Int) (rn : Nat) (m : List (List Int)) (c : Nat) (s : List Int) (sn : Nat) (hn : ka0 a = n) (h1 : n ≤ 1000000) (hA : MsW a) (hc : ka0 m = c) (h3 : c ≤ 1000000) (hW : MsW m) : Fun 132 [.c (.d (D.sl (kK a) n)), .c (.fn 130 [(0, 0)])] (kF [(0, some (63, .ds [iD k, D.sl (dI .i64 r) rn, D.sl (kK m) c, D.sl (dI .i64 s) sn]))]) 1 (u1 (D.lit (.bool (sgB a m)))) (kF [(0, some (63, .ds [iD k, D.sl (dI .i64 r) rn, D.sl (kK m) c, D.sl (dI .i64 s) sn]))]) 1 := by
 refine Fun.mk (n := 9) Tryz.func132 rfl rfl (ka4 rfl) ?_
 intro cx hcx
 refine kI [.no] True [(0, qK (kK a) n), (1, .e (.c (.fn 130 [(0, 0)])))] [(0, some (63, .ds [iD k, dl r rn, D.sl (kK m) c, dl s sn]))] 1 trivial ?_
 by_cases hx1 : ((0 : Int) ≤ (stK a m n))
 ·refine kS [.no, .no, .call [0] (iV (stK a m n)) [(0, some (63, .ds [iD k, dl r rn, D.sl (kK m) c, dl s sn]))] 1 [] none, .b true, .no] ((_) ∧ (((0 : Int) ≤ (stK a m n)))) [(4, bV true)] ⟨(u5t a n k r rn m c s sn zo zo (qJ : MsW a) zo zo (qJ : MsW m)), zo⟩ ?_
  refine AW.ret ?_
  exact EndP.of (.inr rfl) [] (P := ((sgB a m) = true) ∧ (kM [iD k, dl r rn, D.sl (kK m) c, dl s sn])) zk ⟨(by first | exact u9s hn zo | exact u9t hn zo), rfl⟩
 ·refine kS [.no, .no, .call [0] (iV (stK a m n)) [(0, some (63, .ds [iD k, dl r rn, D.sl (kK m) c, dl s sn]))] 1 [] none, .b false, .no] ((_) ∧ (¬ ((0 : Int) ≤ (stK a m n)))) [(4, bV false)] ⟨(u5t a n k r rn m c s sn zo zo (qJ : MsW a) zo zo (qJ : MsW m)), zo⟩ ?_
  refine AW.ret ?_
  exact EndP.of (.inr rfl) [] (P := ((sgB a m) = false) ∧ (kM [iD k, dl r rn, D.sl (kK m) c, dl s sn])) zk ⟨(by first | exact u9s hn zo | exact u9t hn zo), rfl⟩
theorem mZ {p : Prop} (h : p := by first | exact v44 (by omega) (by assumption) (by assumption) (by assumption) | exact v48 (by omega) | exact v46 (by assumption) | exact v47 (by assumption) | exact v45 (by assumption)) : p := h
abbrev dM (k2 : Int) (r2 : List Int) (rn2 : Nat) (m2 : List (List Int)) (c2 : Nat) (s2 : List Int) (sn2 : Nat) : BC := .ds [iD k2, D.sl (dI .i64 r2) rn2, D.sl (kK m2) c2, D.sl (dI .i64 s2) sn2]
theorem k53 (k : Int) (r : List Int) (rn : Nat) (m : List (List Int)) (c : Nat) (s : List Int) (sn : Nat) (k2 : Int) (r2 : List Int) (rn2 : Nat) (m2 : List (List Int)) (c2 : Nat) (s2 : List Int) (sn2 : Nat) (hr : ka0 r = rn * 2) (hs : ka0 s = sn * 2) (hc : ka0 m = c) (h1 : rn ≤ 1000000) (h2 : sn ≤ 1000000) (h3 : c ≤ 1000000) (hW : MsW m) (hr2 : ka0 r2 = rn2 * 2) (hs2 : ka0 s2 = sn2 * 2) (hc2 : ka0 m2 = c2) (h12 : rn2 ≤ 1000000) (h22 : sn2 ≤ 1000000) (h32 : c2 ≤ 1000000) (hW2 : MsW m2) : Fun 93 [.agg [iC k, .d (D.sl (dI .i64 r) rn), .d (D.sl (kK m) c), .d (D.sl (dI .i64 s) sn)], .agg [iC k2, .d (D.sl (dI .i64 r2) rn2), .d (D.sl (kK m2) c2), .d (D.sl (dI .i64 s2) sn2)]] (kF []) 0 (u1 (D.lit (.bool (oZ k r rn m s sn k2 r2 rn2 m2 s2 sn2)))) (kF []) 0 := by
 refine Fun.mk (n := 34) Tryz.func93 rfl rfl (ka4 rfl) ?_
 intro cx hcx
 refine kI [.no, .no, .no] True [(2, rV 0 0), (3, rV 1 0)] [(0, some (63, .ds [iD k, dl r rn, D.sl (kK m) c, dl s sn])), (1, some (63, (dM k2 r2 rn2 m2 c2 s2 sn2)))] 2 trivial ?_
 refine kS [.no, .no] True [(2, rV 0 0), (3, rV 1 0), (5, .e (.c (.fn 130 [(1, 0)])))] trivial ?_
 by_cases hx1 : ((o9 k k2) = 0)
 ·rcases kb3 (xZ (kB r rn) (kB r2 rn2)) with hx2 | hx2
  ·rcases kb3 (sgB m m2) with hx3 | hx3
   ·refine kI (qN 4 (.i (o9 k k2) :: .b true :: qN 5 (.call [] (bV true) [] 0 [] none :: qN 5 (.call [1] (bV true) [(0, some (63, (dM k2 r2 rn2 m2 c2 s2 sn2)))] 1 [] none :: qN 5 [])))) ((qM .andNot .i64 k k2 = (o9 k k2)) ∧ (((o9 k k2) = 0)) ∧ (Fun 131 [.agg [.d (dl r rn)], .agg [.d (dl r2 rn2)]] (kF []) 0 (bV true) (kF []) 0) ∧ (Fun 132 [.c (.d (D.sl (kK m) c)), .c (.fn 130 [(0, 0)])] (kF [(0, some (63, (dM k2 r2 rn2 m2 c2 s2 sn2)))]) 1 (bV true) (kF [(0, some (63, (dM k2 r2 rn2 m2 c2 s2 sn2)))]) 1)) [(4, bV false)] [] 2 ⟨rfl, zo, (by have h0 := (eE r r2 rn rn2 zo zo zo zo); rw [hx2] at h0; exact h0), (by have h0 := (u0w m c k2 r2 rn2 m2 c2 s2 sn2 zo zo (qJ : MsW m) zo zo (qJ : MsW m2)); rw [hx3] at h0; exact h0)⟩ ?_
    refine AW.ret ?_
    exact EndP.of (.inr rfl) [] (P := ((oZ k r rn m s sn k2 r2 rn2 m2 s2 sn2) = false)) zk mZ
   ·rcases kb3 (xZ (kB s sn) (kB s2 sn2)) with hx4 | hx4
    ·refine kI (qN 4 (.i (o9 k k2) :: .b true :: qN 5 (.call [] (bV true) [] 0 [] none :: qN 5 (.call [1] (bV false) [(0, some (63, (dM k2 r2 rn2 m2 c2 s2 sn2)))] 1 [] none :: qN 7 [.call [] (bV true) [] 0 [] none, .no, .no])))) ((qM .andNot .i64 k k2 = (o9 k k2)) ∧ (((o9 k k2) = 0)) ∧ (Fun 131 [.agg [.d (dl r rn)], .agg [.d (dl r2 rn2)]] (kF []) 0 (bV true) (kF []) 0) ∧ (Fun 132 [.c (.d (D.sl (kK m) c)), .c (.fn 130 [(0, 0)])] (kF [(0, some (63, (dM k2 r2 rn2 m2 c2 s2 sn2)))]) 1 (bV false) (kF [(0, some (63, (dM k2 r2 rn2 m2 c2 s2 sn2)))]) 1) ∧ (Fun 131 [.agg [.d (dl s sn)], .agg [.d (dl s2 sn2)]] (kF []) 0 (bV true) (kF []) 0)) [(4, bV true)] [] 2 ⟨rfl, zo, (by have h0 := (eE r r2 rn rn2 zo zo zo zo); rw [hx2] at h0; exact h0), (by have h0 := (u0w m c k2 r2 rn2 m2 c2 s2 sn2 zo zo (qJ : MsW m) zo zo (qJ : MsW m2)); rw [hx3] at h0; exact h0), (by have h0 := (eE s s2 sn sn2 zo zo zo zo); rw [hx4] at h0; exact h0)⟩ ?_
     refine AW.ret ?_
     exact EndP.of (.inr rfl) [] (P := ((oZ k r rn m s sn k2 r2 rn2 m2 s2 sn2) = true)) zk mZ
    ·refine kI (qN 4 (.i (o9 k k2) :: .b true :: qN 5 (.call [] (bV true) [] 0 [] none :: qN 5 (.call [1] (bV false) [(0, some (63, (dM k2 r2 rn2 m2 c2 s2 sn2)))] 1 [] none :: qN 7 [.call [] (bV false) [] 0 [] none, .no, .no])))) ((qM .andNot .i64 k k2 = (o9 k k2)) ∧ (((o9 k k2) = 0)) ∧ (Fun 131 [.agg [.d (dl r rn)], .agg [.d (dl r2 rn2)]] (kF []) 0 (bV true) (kF []) 0) ∧ (Fun 132 [.c (.d (D.sl (kK m) c)), .c (.fn 130 [(0, 0)])] (kF [(0, some (63, (dM k2 r2 rn2 m2 c2 s2 sn2)))]) 1 (bV false) (kF [(0, some (63, (dM k2 r2 rn2 m2 c2 s2 sn2)))]) 1) ∧ (Fun 131 [.agg [.d (dl s sn)], .agg [.d (dl s2 sn2)]] (kF []) 0 (bV false) (kF []) 0)) [(4, bV false)] [] 2 ⟨rfl, zo, (by have h0 := (eE r r2 rn rn2 zo zo zo zo); rw [hx2] at h0; exact h0), (by have h0 := (u0w m c k2 r2 rn2 m2 c2 s2 sn2 zo zo (qJ : MsW m) zo zo (qJ : MsW m2)); rw [hx3] at h0; exact h0), (by have h0 := (eE s s2 sn sn2 zo zo zo zo); rw [hx4] at h0; exact h0)⟩ ?_
     refine AW.ret ?_
     exact EndP.of (.inr rfl) [] (P := ((oZ k r rn m s sn k2 r2 rn2 m2 s2 sn2) = false)) zk mZ
  ·refine kI (qN 4 (.i (o9 k k2) :: .b true :: qN 5 (.call [] (bV false) [] 0 [] none :: qN 6 []))) ((qM .andNot .i64 k k2 = (o9 k k2)) ∧ (((o9 k k2) = 0)) ∧ (Fun 131 [.agg [.d (dl r rn)], .agg [.d (dl r2 rn2)]] (kF []) 0 (bV false) (kF []) 0)) [(4, bV false)] [] 2 ⟨rfl, zo, (by have h0 := (eE r r2 rn rn2 zo zo zo zo); rw [hx2] at h0; exact h0)⟩ ?_
   refine AW.ret ?_
   exact EndP.of (.inr rfl) [] (P := ((oZ k r rn m s sn k2 r2 rn2 m2 s2 sn2) = false)) zk mZ
 ·refine kI (qN 4 (.i (o9 k k2) :: .b false :: qN 7 [])) ((qM .andNot .i64 k k2 = (o9 k k2)) ∧ (¬ ((o9 k k2) = 0))) [(4, bV false)] [] 2 ⟨rfl, zo⟩ ?_
  refine AW.ret ?_
  exact EndP.of (.inr rfl) [] (P := ((oZ k r rn m s sn k2 r2 rn2 m2 s2 sn2) = false)) zk mZ
theorem k04 {p : Prop} (h : p := by first | exact v4l (by omega) (by assumption) (by omega) | exact v4k (by omega) (by assumption) (by assumption)) : p := h
theorem u0u (xs : List Bx) (n i : Nat) (hn : ka0 xs = n) (h1 : n ≤ 1000000) (hW : BsW xs) (hi : i < n) : Fun 61 [.c (.d (D.sl (kU xs) n)), iE ((i : Nat) : Int)] (kF []) 0 (u1 (D.lit (.bool (goB xs i)))) (kF []) 0 := by
 refine Fun.mk (n := 40) Tryz.func61 rfl rfl (ka4 rfl) ?_
 intro cx hcx
 refine kI [.no] True [(0, .e (qB xs n)), (1, uV i)] [] 0 trivial ?_
 refine AW.seq ?_
 refine kS [.no, .no, .no] True [(0, .e (qB xs n)), (1, uV i), (7, .e (qB xs n)), (8, uV n), (9, iV 0)] trivial ?_
 refine AW.block ?_
 refine qF 0 hcx (fun (x : {x : Nat // match x with | z => (z ≤ n) ∧ (∀ j, j < z → oK xs i j = false)}) => match x with | ⟨z, _⟩ => (⟨[(0, .e (qB xs n)), (1, uV i), (7, .e (qB xs n)), (8, uV n), (9, uV z)], [], 0⟩ : ES)) (fun x => match x with | ⟨z, _⟩ => n - z) ⟨(0 : Nat), ⟨yE, (fun j hj => absurd hj (Nat.not_lt_zero j))⟩⟩ [] (P := (kM (kU xs)) ∧ (kH n) ∧ (kP (i : Int)) ∧ (kM (kU xs)) ∧ (kH n) ∧ (kP (n : Int)) ∧ (kP 0)) zk ⟨rfl, rfl, rfl, rfl, rfl, rfl, rfl⟩ ?_
 rintro ⟨z, hinv0⟩
 obtain ⟨hz, ha⟩ : (z ≤ n) ∧ (∀ j, j < z → oK xs i j = false) := hinv0
 refine uG (l := [(0, .e (qB xs n)), (1, uV i), (7, .e (qB xs n)), (8, uV n), (9, uV z)]) (g := []) (nx := 0) rfl rfl rfl ?_
 by_cases hx1 : (((z : Nat) : Int) < ((n : Nat) : Int))
 ·refine kI [.b true] (((z : Int) < (n : Int))) [(0, .e (qB xs n)), (1, uV i), (7, .e (qB xs n)), (8, uV n), (9, uV z), (10, bV true)] [] 0 zo ?_
  refine AW.seq ?_
  refine vO ?_
  refine AW.seq ?_
  refine AW.block ?_
  obtain ⟨hx2, hx3, hx4, hx5, hx6⟩ := BsW.at (qJ : BsW xs) (z)
  refine kI [.no, .n z, .ds (yU xs z), .no, .no, .no] ((kP (z : Int)) ∧ (z < n) ∧ (ka5 4 (ka3 (z * 4) (kU xs)) = (yU xs z)) ∧ (((yU xs z) : List D).length = 4)) [(0, .e (qB xs n)), (1, uV i), (5, uV z), (6, rV 0 0), (7, .e (qB xs n)), (8, uV n), (9, uV z)] [(0, some (63, .ds (yU xs z)))] 1 ⟨rfl, zo, (vN bG), rfl⟩ ?_
  by_cases hx7 : (((z : Nat) : Int) ≠ ((i : Nat) : Int))
  ·rcases kb3 (oZ (kT xs i) (qE xs i) (k9 xs i) (kW xs i) (qD xs i) (k8 xs i) (kT xs z) (qE xs z) (k9 xs z) (kW xs z) (qD xs z) (k8 xs z)) with hx13 | hx13
   ·by_cases hx19 : (((z : Nat) : Int) < ((i : Nat) : Int))
    ·obtain ⟨hx20, hx21, hx22, hx23, hx24⟩ := BsW.at (qJ : BsW xs) (i)
     refine kI [.no, .no, .b true, .no, .no, .no, .n i, .ds (yU xs i), .no, .call [] (bV true) [] 0 [] none, .no, .no, .no, .no, .b true, .no, .no, .no] ((((z : Int) ≠ (i : Int))) ∧ (kP (i : Int)) ∧ (i < n) ∧ (ka5 4 (ka3 (i * 4) (kU xs)) = (yU xs i)) ∧ (((yU xs i) : List D).length = 4) ∧ (Fun 93 [(oT xs i), (oT xs z)] (kF []) 0 (bV true) (kF []) 0) ∧ (((z : Int) < (i : Int)))) [(0, .e (qB xs n)), (1, uV i), (7, .e (qB xs n)), (8, uV n), (9, uV z), (38, bV true)] [] 1 ⟨zo, rfl, zo, (vN bG), rfl, (by have h0 := (k53 (kT xs i) (qE xs i) (k9 xs i) (kW xs i) (ka0 (kW xs i)) (qD xs i) (k8 xs i) (kT xs z) (qE xs z) (k9 xs z) (kW xs z) (ka0 (kW xs z)) (qD xs z) (k8 xs z) kN kN rfl kN kN kN (BsW.ms (qJ : BsW xs) _) kN kN rfl kN kN kN (BsW.ms (qJ : BsW xs) _)); rw [hx13] at h0; exact h0), zo⟩ ?_
     refine zt ?_
     refine kS [.no] True [(4, bV true)] trivial ?_
     refine AW.ret ?_
     exact EndP.of (.inr rfl) [] (P := ((goB xs i) = true)) zk (by first | exact u7p (j := z) zo k04 | exact u2a (fun j hj => ha j zo))
    ·rcases kb3 (oZ (kT xs z) (qE xs z) (k9 xs z) (kW xs z) (qD xs z) (k8 xs z) (kT xs i) (qE xs i) (k9 xs i) (kW xs i) (qD xs i) (k8 xs i)) with hx30 | hx30
     ·obtain ⟨hx31, hx32, hx33, hx34, hx35⟩ := BsW.at (qJ : BsW xs) (i)
      refine kI (.no :: .no :: .b true :: .no :: .no :: .no :: .n i :: .ds (yU xs i) :: .no :: .call [] (bV true) [] 0 [] none :: qN 4 (.b false :: qN 4 [.n i, .ds (yU xs i), .call [] (bV true) [] 0 [] none, .no, .no, .no])) ((((z : Int) ≠ (i : Int))) ∧ (kP (i : Int)) ∧ (i < n) ∧ (ka5 4 (ka3 (i * 4) (kU xs)) = (yU xs i)) ∧ (((yU xs i) : List D).length = 4) ∧ (Fun 93 [(oT xs i), (oT xs z)] (kF []) 0 (bV true) (kF []) 0) ∧ (¬ ((z : Int) < (i : Int))) ∧ (kP (i : Int)) ∧ (i < n) ∧ (ka5 4 (ka3 (i * 4) (kU xs)) = (yU xs i)) ∧ (((yU xs i) : List D).length = 4) ∧ (Fun 93 [(oT xs z), (oT xs i)] (kF []) 0 (bV true) (kF []) 0)) [(0, .e (qB xs n)), (1, uV i), (7, .e (qB xs n)), (8, uV n), (9, uV z), (38, bV false)] [] 1 ⟨zo, rfl, zo, (vN bG), rfl, (by have h0 := (k53 (kT xs i) (qE xs i) (k9 xs i) (kW xs i) (ka0 (kW xs i)) (qD xs i) (k8 xs i) (kT xs z) (qE xs z) (k9 xs z) (kW xs z) (ka0 (kW xs z)) (qD xs z) (k8 xs z) kN kN rfl kN kN kN (BsW.ms (qJ : BsW xs) _) kN kN rfl kN kN kN (BsW.ms (qJ : BsW xs) _)); rw [hx13] at h0; exact h0), zo, rfl, zo, (vN bG), rfl, (by have h0 := (k53 (kT xs z) (qE xs z) (k9 xs z) (kW xs z) (ka0 (kW xs z)) (qD xs z) (k8 xs z) (kT xs i) (qE xs i) (k9 xs i) (kW xs i) (ka0 (kW xs i)) (qD xs i) (k8 xs i) kN kN rfl kN kN kN (BsW.ms (qJ : BsW xs) _) kN kN rfl kN kN kN (BsW.ms (qJ : BsW xs) _)); rw [hx30] at h0; exact h0)⟩ ?_
      refine u9 ?_
      refine yK [.w, .no] (yF ((z : Int) + 1)) [(0, .e (qB xs n)), (1, uV i), (7, .e (qB xs n)), (8, uV n), (9, iV (↑z + 1))] ⟨by omega, by omega⟩ ?_
      exact Rd.of ⟨((z + 1) : Nat), ⟨yE, (fun j hj => (Nat.lt_succ_iff_lt_or_eq.1 hj).elim (ha j) (fun e9 => by subst e9; first | exact k80 zo | exact u7q (by assumption) | exact u7r (by assumption) zo))⟩⟩ [] (P := (kM (kU xs)) ∧ (kH n) ∧ (kP (i : Int)) ∧ (kM (kU xs)) ∧ (kH n) ∧ (kP (n : Int)) ∧ (cU z)) zk ⟨rfl, rfl, rfl, rfl, rfl, rfl, bF⟩ (show n - (z + 1) < n - z from vW)
     ·obtain ⟨hx36, hx37, hx38, hx39, hx40⟩ := BsW.at (qJ : BsW xs) (i)
      refine kI (.no :: .no :: .b true :: .no :: .no :: .no :: .n i :: .ds (yU xs i) :: .no :: .call [] (bV true) [] 0 [] none :: qN 4 (.b false :: qN 4 [.n i, .ds (yU xs i), .call [] (bV false) [] 0 [] none, .no, .no, .no])) ((((z : Int) ≠ (i : Int))) ∧ (kP (i : Int)) ∧ (i < n) ∧ (ka5 4 (ka3 (i * 4) (kU xs)) = (yU xs i)) ∧ (((yU xs i) : List D).length = 4) ∧ (Fun 93 [(oT xs i), (oT xs z)] (kF []) 0 (bV true) (kF []) 0) ∧ (¬ ((z : Int) < (i : Int))) ∧ (kP (i : Int)) ∧ (i < n) ∧ (ka5 4 (ka3 (i * 4) (kU xs)) = (yU xs i)) ∧ (((yU xs i) : List D).length = 4) ∧ (Fun 93 [(oT xs z), (oT xs i)] (kF []) 0 (bV false) (kF []) 0)) [(0, .e (qB xs n)), (1, uV i), (7, .e (qB xs n)), (8, uV n), (9, uV z), (38, bV true)] [] 1 ⟨zo, rfl, zo, (vN bG), rfl, (by have h0 := (k53 (kT xs i) (qE xs i) (k9 xs i) (kW xs i) (ka0 (kW xs i)) (qD xs i) (k8 xs i) (kT xs z) (qE xs z) (k9 xs z) (kW xs z) (ka0 (kW xs z)) (qD xs z) (k8 xs z) kN kN rfl kN kN kN (BsW.ms (qJ : BsW xs) _) kN kN rfl kN kN kN (BsW.ms (qJ : BsW xs) _)); rw [hx13] at h0; exact h0), zo, rfl, zo, (vN bG), rfl, (by have h0 := (k53 (kT xs z) (qE xs z) (k9 xs z) (kW xs z) (ka0 (kW xs z)) (qD xs z) (k8 xs z) (kT xs i) (qE xs i) (k9 xs i) (kW xs i) (ka0 (kW xs i)) (qD xs i) (k8 xs i) kN kN rfl kN kN kN (BsW.ms (qJ : BsW xs) _) kN kN rfl kN kN kN (BsW.ms (qJ : BsW xs) _)); rw [hx30] at h0; exact h0)⟩ ?_
      refine zt ?_
      refine kS [.no] True [(4, bV true)] trivial ?_
      refine AW.ret ?_
      exact EndP.of (.inr rfl) [] (P := ((goB xs i) = true)) zk (by first | exact u7p (j := z) zo k04 | exact u2a (fun j hj => ha j zo))
   ·obtain ⟨hx41, hx42, hx43, hx44, hx45⟩ := BsW.at (qJ : BsW xs) (i)
    refine kI [.no, .no, .b true, .no, .no, .no, .n i, .ds (yU xs i), .no, .call [] (bV false) [] 0 [] none, .no, .no, .no] ((((z : Int) ≠ (i : Int))) ∧ (kP (i : Int)) ∧ (i < n) ∧ (ka5 4 (ka3 (i * 4) (kU xs)) = (yU xs i)) ∧ (((yU xs i) : List D).length = 4) ∧ (Fun 93 [(oT xs i), (oT xs z)] (kF []) 0 (bV false) (kF []) 0)) [(0, .e (qB xs n)), (1, uV i), (7, .e (qB xs n)), (8, uV n), (9, uV z), (38, bV false)] [] 1 ⟨zo, rfl, zo, (vN bG), rfl, (by have h0 := (k53 (kT xs i) (qE xs i) (k9 xs i) (kW xs i) (ka0 (kW xs i)) (qD xs i) (k8 xs i) (kT xs z) (qE xs z) (k9 xs z) (kW xs z) (ka0 (kW xs z)) (qD xs z) (k8 xs z) kN kN rfl kN kN kN (BsW.ms (qJ : BsW xs) _) kN kN rfl kN kN kN (BsW.ms (qJ : BsW xs) _)); rw [hx13] at h0; exact h0)⟩ ?_
    refine u9 ?_
    refine yK [.w, .no] (yF ((z : Int) + 1)) [(0, .e (qB xs n)), (1, uV i), (7, .e (qB xs n)), (8, uV n), (9, iV (↑z + 1))] ⟨by omega, by omega⟩ ?_
    exact Rd.of ⟨((z + 1) : Nat), ⟨yE, (fun j hj => (Nat.lt_succ_iff_lt_or_eq.1 hj).elim (ha j) (fun e9 => by subst e9; first | exact k80 zo | exact u7q (by assumption) | exact u7r (by assumption) zo))⟩⟩ [] (P := (kM (kU xs)) ∧ (kH n) ∧ (kP (i : Int)) ∧ (kM (kU xs)) ∧ (kH n) ∧ (kP (n : Int)) ∧ (cU z)) zk ⟨rfl, rfl, rfl, rfl, rfl, rfl, bF⟩ (show n - (z + 1) < n - z from vW)
  ·refine kI (.no :: .no :: .b false :: qN 4 []) (¬ ((z : Int) ≠ (i : Int))) [(0, .e (qB xs n)), (1, uV i), (7, .e (qB xs n)), (8, uV n), (9, uV z), (38, bV false)] [] 1 zo ?_
   refine u9 ?_
   refine yK [.w, .no] (yF ((z : Int) + 1)) [(0, .e (qB xs n)), (1, uV i), (7, .e (qB xs n)), (8, uV n), (9, iV (↑z + 1))] ⟨by omega, by omega⟩ ?_
   exact Rd.of ⟨((z + 1) : Nat), ⟨yE, (fun j hj => (Nat.lt_succ_iff_lt_or_eq.1 hj).elim (ha j) (fun e9 => by subst e9; first | exact k80 zo | exact u7q (by assumption) | exact u7r (by assumption) zo))⟩⟩ [] (P := (kM (kU xs)) ∧ (kH n) ∧ (kP (i : Int)) ∧ (kM (kU xs)) ∧ (kH n) ∧ (kP (n : Int)) ∧ (cU z)) zk ⟨rfl, rfl, rfl, rfl, rfl, rfl, bF⟩ (show n - (z + 1) < n - z from vW)
 ·refine kI [.b false] (¬ ((z : Int) < (n : Int))) [(0, .e (qB xs n)), (1, uV i), (7, .e (qB xs n)), (8, uV n), (9, uV z), (10, bV false)] [] 0 zo ?_
  refine AW.seq ?_
  refine zf ?_
  refine AW.exit ?_
  refine kI [.no] True [(4, bV false)] [] 0 trivial ?_
  refine AW.ret ?_
  exact EndP.of (.inr rfl) [] (P := ((goB xs i) = false)) zk (by first | exact u7p (j := z) zo k04 | exact u2a (fun j hj => ha j zo))
theorem rM {p : Prop} (h : p := by rw [kd2, kb9 (by first | omega | (simp only [kZ, kY, qV, ka6, ka9, kb0, kb1, kb2, kb4, kb8, kc3, kc1, kc7] <;> omega))]) : p := h
theorem vP {p : Prop} (h : p := by first | omega | (simp only [kZ, kY, qV, ka6, ka9, kb0, kb1, kb2, kb4, kb8, kc3, kc1, kc7] <;> omega) | rfl) : p := h
theorem u0v (l : List Int) (n : Nat) (hl : ka0 l = n * 2) (hb : n ≤ 1000000) : Fun 94 [.agg [.d (D.sl (dI .i64 l) n)]] (kF []) 0 (.e (.agg [.d (D.sl (dI .i64 l) n)])) (kF []) 0 := by
 refine Fun.mk (n := 7) Tryz.func94 rfl rfl (ka4 rfl) ?_
 intro cx hcx
 refine kI [.no, .no] True [(1, rV 0 0), (2, rV 1 0)] [(0, some (60, .ds [dl l n])), (1, some (60, .ds [qQ]))] 2 trivial ?_
 refine kI [.no, .no, .call [] (oV 0 0 n 2) [(0, some (95, .ds (dI .i64 l)))] 1 [] none, .no, .no] _ [(2, rV 1 0)] [(1, some (60, .cs [.own 2 0 n 2 true])), (2, some (95, .ds (dI .i64 l)))] 3 (u3l l n zo zo) ?_
 refine AW.freeze 2 (l' := [(2, rV 1 0)]) (g' := [(1, some (60, .ds [dl l n]))]) rfl (FzS.cons rfl (.same _) FzS.nil) (FzG.to (bc := .cs [.own 2 0 n 2 true]) rfl (by rfl) (FzL.cons (@FzC.own 2 ((dI .i64 l) : List D) 0 n 2 true ((dI .i64 l) : List D) rM vP) FzL.nil) FzG.nil) ?_
 refine AW.ret ?_
 exact EndP.of (.inr rfl) [] (P := (kM (dI .i64 l)) ∧ (kH n)) zk ⟨rfl, rfl⟩
theorem u3m (m : List (List Int)) (c : Nat) (hc : ka0 m = c) (h3 : c ≤ 1000000) (hW : MsW m) : Fun 95 [.c (.d (D.sl (kK m) c)), .c (.fn 96 [])] (kF []) 0 (qK (kK m) c) (kF []) 0 := by
 refine Fun.mk (n := 22) Tryz.func95 rfl rfl (ka4 rfl) ?_
 intro cx hcx
 refine kI [.no] True [(0, qK (kK m) c), (1, .e (.c (.fn 96 [])))] [] 0 trivial ?_
 refine kS [.no] True [(0, qK (kK m) c), (1, .e (.c (.fn 96 []))), (5, nV)] trivial ?_
 refine AW.seq ?_
 refine kS [.no, .no, .no] True [(1, .e (.c (.fn 96 []))), (5, nV), (8, qK (kK m) c), (9, uV c), (10, iV 0)] trivial ?_
 refine AW.block ?_
 refine AW.adoptS 5 1 38 rfl ?_
 refine qF 0 hcx (fun (x : {x : Nat // match x with | z => (z ≤ c)}) => match x with | ⟨z, _⟩ => (⟨[(1, .e (.c (.fn 96 []))), (5, oV 1 0 z 1), (8, qK (kK m) c), (9, uV c), (10, uV z)], [(1, some (38, .ds (kK (ka5 z m))))], 2⟩ : ES)) (fun x => match x with | ⟨z, _⟩ => c - z) ⟨(0 : Nat), (show ((0 : Nat) ≤ c) from yE)⟩ [(1, 0)] (P := (kH 0) ∧ (kH 0) ∧ (kM (kK m)) ∧ (kH c) ∧ (kP (c : Int)) ∧ (kP 0) ∧ (((kK (ka5 0 m)) : List D) = ([] : List D))) zk ⟨rfl, rfl, rfl, rfl, rfl, rfl, (by first | rfl | with_reducible assumption | (exact (congrArg kK (List.take_succ_eq_append_getD zo))) | (rw [k2r (by omega)]))⟩ ?_
 rintro ⟨z, hinv0⟩
 have hz : (z ≤ c) := hinv0
 refine uG (l := [(1, .e (.c (.fn 96 []))), (5, oV 1 0 z 1), (8, qK (kK m) c), (9, uV c), (10, uV z)]) (g := [(1, some (38, .ds (kK (ka5 z m))))]) (nx := 2) rfl rfl rfl ?_
 by_cases hx1 : (((z : Nat) : Int) < ((c : Nat) : Int))
 ·refine kI [.b true] (((z : Int) < (c : Int))) [(1, .e (.c (.fn 96 []))), (5, oV 1 0 z 1), (8, qK (kK m) c), (9, uV c), (10, uV z), (11, bV true)] [(1, some (38, .ds (kK (ka5 z m))))] 2 zo ?_
  refine AW.seq ?_
  refine vO ?_
  refine AW.seq ?_
  refine AW.block ?_
  have hx2 : ((ka0 (ka1 m z ([] : List Int))) ≤ 1000000) := MsW.at (qJ : MsW m) _
  refine kS [.n z, .d (dl (ka1 m z ([] : List Int)) (ka0 (ka1 m z ([] : List Int)))), .no] ((kP (z : Int)) ∧ (z < c) ∧ ((ka3 z (kK m))[0]? = some (dl (ka1 m z ([] : List Int)) (ka0 (ka1 m z ([] : List Int)))))) [(1, .e (.c (.fn 96 []))), (5, oV 1 0 z 1), (7, sV .i64 (ka1 m z ([] : List Int)) (ka0 (ka1 m z ([] : List Int)))), (8, qK (kK m) c), (9, uV c), (10, uV z)] ⟨rfl, zo, (bK _ _ bG)⟩ ?_
  refine aB [.no, .no, .no, (.fz (.call [] (oV 0 0 (ka0 (ka1 m z ([] : List Int))) 1) [(0, some (3, .ds (dI .i64 (ka1 m z ([] : List Int)))))] 1 [] none)), .no, .ap none (z + 1) (kK ((ka5 z m) ++ ([(ka1 m z ([] : List Int))] : List (List Int)))), .no] ((_) ∧ (((dI .i64 (ka1 m z ([] : List Int))) : List D).length = (ka0 (ka1 m z ([] : List Int))) * 1) ∧ ([dl (ka1 m z ([] : List Int)) (ka0 (ka1 m z ([] : List Int)))].length = 1 * 1) ∧ (((kK (ka5 z m)) : List D).length = z * 1) ∧ ((z + 1) * 24 ≤ 140737488355328) ∧ (z + 1 = (z + 1)) ∧ (((kK (ka5 z m)) : List D) ++ [dl (ka1 m z ([] : List Int)) (ka0 (ka1 m z ([] : List Int)))] = (kK ((ka5 z m) ++ ([(ka1 m z ([] : List Int))] : List (List Int)))))) [(1, .e (.c (.fn 96 []))), (5, oV 4 0 (z + 1) 1), (8, qK (kK m) c), (9, uV c), (10, uV z)] [(4, some (38, .ds (kK ((ka5 z m) ++ ([(ka1 m z ([] : List Int))] : List (List Int))))))] 5 ⟨(dJ (ka1 m z ([] : List Int)) (ka0 (ka1 m z ([] : List Int))) rfl kN), vP, vP, vP, zo, zo, (sR (ka5 z m) (ka1 m z ([] : List Int)) (ka0 (ka1 m z ([] : List Int))) (by first | rfl | omega))⟩ ?_
  refine yK [.w, .no] (yF ((z : Int) + 1)) [(1, .e (.c (.fn 96 []))), (5, oV 4 0 (z + 1) 1), (8, qK (kK m) c), (9, uV c), (10, iV (↑z + 1))] ⟨by omega, by omega⟩ ?_
  exact Rd.of ⟨((z + 1) : Nat), (show ((z + 1) ≤ c) from yE)⟩ [(1, 4)] (P := (kH 0) ∧ (kH (z + 1)) ∧ (kM (kK m)) ∧ (kH c) ∧ (kP (c : Int)) ∧ (cU z) ∧ (((kK (ka5 (z + 1) m)) : List D) = (kK ((ka5 z m) ++ ([(ka1 m z ([] : List Int))] : List (List Int)))))) zk ⟨rfl, rfl, rfl, rfl, rfl, bF, (by first | rfl | with_reducible assumption | (exact (congrArg kK (List.take_succ_eq_append_getD zo))) | (rw [k2r (by omega)]))⟩ (show c - (z + 1) < c - z from vW)
 ·refine kI [.b false] (¬ ((z : Int) < (c : Int))) [(1, .e (.c (.fn 96 []))), (5, oV 1 0 z 1), (8, qK (kK m) c), (9, uV c), (10, uV z), (11, bV false)] [(1, some (38, .ds (kK (ka5 z m))))] 2 zo ?_
  refine AW.seq ?_
  refine zf ?_
  refine AW.exit ?_
  refine kI [.no, .no] True [(4, oV 1 0 z 1)] [(1, some (38, .ds (kK (ka5 z m))))] 2 trivial ?_
  refine AW.freeze 1 (l' := [(4, qK (kK (ka5 z m)) z)]) (g' := []) rfl (FzS.cons rfl (.e (.c (@FzC.own 1 ((kK (ka5 z m)) : List D) 0 z 1 true ((kK (ka5 z m)) : List D) (by rw [kd2, kc7, kb9 (by first | omega | (simp only [kZ, kY, qV, ka6, ka9, kb0, kb1, kb2, kb4, kb8, kc3, kc1, kc7] <;> omega))]) vP))) FzS.nil) FzG.nil ?_
  have hz1 : ka5 z m = m := kb9 (by omega)
  refine AW.ret ?_
  exact EndP.of (.inr rfl) [] (P := (((kK m) : List D) = (kK (ka5 z m))) ∧ ((c : Nat) = z)) zk ⟨(by first | rfl | (rw [hz1]; done) | (rw [hz1]; rfl)), (by first | rfl | omega)⟩
abbrev u6f : BC := .ds [iD 0, D.lit (.slice none 0 0), D.lit (.slice none 0 0), D.lit (.slice none 0 0)]
theorem u8x (k : Int) (r : List Int) (rn : Nat) (m : List (List Int)) (c : Nat) (s : List Int) (sn : Nat) (hr : ka0 r = rn * 2) (hs : ka0 s = sn * 2) (hc : ka0 m = c) (h1 : rn ≤ 1000000) (h2 : sn ≤ 1000000) (h3 : c ≤ 1000000) (hW : MsW m) : Fun 62 [.agg [iC k, .d (D.sl (dI .i64 r) rn), .d (D.sl (kK m) c), .d (D.sl (dI .i64 s) sn)]] (kF []) 0 (.e (.agg [iC k, .d (D.sl (dI .i64 r) rn), .d (D.sl (kK m) c), .d (D.sl (dI .i64 s) sn)])) (kF []) 0 := by
 refine Fun.mk (n := 16) Tryz.func62 rfl rfl (ka4 rfl) ?_
 intro cx hcx
 refine kI [.no, .no] True [(1, rV 0 0), (2, rV 1 0)] [(0, some (63, .ds [iD k, dl r rn, D.sl (kK m) c, dl s sn])), (1, some (63, u6f))] 2 trivial ?_
 refine kS [.no, .no, .call [] (.e (.agg [.d (dl r rn)])) [] 0 [] none, .no, .no] _ [(1, rV 0 0), (2, rV 1 0)] (u0v r rn zo zo) ?_
 refine kS [.no, .no, .call [] (qK (kK m) c) [] 0 [] none, .no, .no] _ [(1, rV 0 0), (2, rV 1 0)] (u3m m c zo zo (qJ : MsW m)) ?_
 refine kS [.no, .no, .call [] (.e (.agg [.d (dl s sn)])) [] 0 [] none, .no, .no] _ [(1, rV 0 0), (2, rV 1 0)] (u0v s sn zo zo) ?_
 refine kI [.no, .no] True [(2, rV 1 0)] [(1, some (63, .ds [iD k, dl r rn, D.sl (kK m) c, dl s sn]))] 2 trivial ?_
 refine AW.ret ?_
 exact EndP.of (.inr rfl) [] (P := (kP k) ∧ (kM (dI .i64 r)) ∧ (kH rn) ∧ (kM (kK m)) ∧ (kH c) ∧ (kM (dI .i64 s)) ∧ (kH sn)) zk ⟨rfl, rfl, rfl, rfl, rfl, rfl, rfl⟩
abbrev u1c (xs : List Bx) (i : Nat) : BC := .ds [iD (kT xs i), D.sl (dI .i64 (qE xs i)) (k9 xs i), D.sl (kK (kW xs i)) (ka0 (kW xs i)), D.sl (dI .i64 (qD xs i)) (k8 xs i)]
theorem u0t (xs : List Bx) (n : Nat) (hn : ka0 xs = n) (h1 : n ≤ 1000000) (hW : BsW xs) : Fun 32 [.c (.d (D.sl (kU xs) n))] (kF []) 0 (.tup [.c (.d (D.sl (kU (bE xs)) (ka0 (bE xs)))), iE (jO xs)]) (kF []) 0 := by
 refine Fun.mk (n := 28) Tryz.func32 rfl rfl (ka4 rfl) ?_
 intro cx hcx
 refine kI [.no, .no] True [(0, .e (qB xs n))] [] 0 trivial ?_
 refine AW.seq ?_
 rcases kb3 (c8 xs) with hx1 | hx1
 ·refine kS [.no, .call [] (bV true) [] 0 [] none, .no] (Fun 60 [.c (.d (D.sl (kU xs) n))] (kF []) 0 (bV true) (kF []) 0) [(0, .e (qB xs n)), (9, bV false)] (by have h0 := (v9 xs n zo zo (qJ : BsW xs)); rw [hx1] at h0; exact h0) ?_
  refine u9 ?_
  refine kS [.no] True [(0, .e (qB xs n)), (4, nV)] trivial ?_
  refine AW.seq ?_
  refine kS [.no, .no, .no] True [(0, .e (qB xs n)), (4, nV), (10, .e (qB xs n)), (11, uV n), (12, iV 0)] trivial ?_
  refine AW.block ?_
  refine AW.adoptS 4 4 63 rfl ?_
  refine qF 0 hcx (fun (x : {x : Nat × Nat × List Bx // match x with | (i, q, o) => (i ≤ n ∧ q ≤ i) ∧ (pH xs i = o) ∧ (ka0 o = q)}) => match x with | ⟨(i, q, o), _⟩ => (⟨[(0, .e (qB xs n)), (4, oV 1 0 q 4), (10, .e (qB xs n)), (11, uV n), (12, uV i)], [(1, some (63, .ds (kU o)))], 2⟩ : ES)) (fun x => match x with | ⟨(i, q, o), _⟩ => n - i) ⟨((0 : Nat), (0 : Nat), (([] : List Bx) : List Bx)), ⟨yE, rfl, rfl⟩⟩ [(1, 0)] (P := (kM (kU xs)) ∧ (kH n) ∧ (kH 0) ∧ (kH 0) ∧ (kM (kU xs)) ∧ (kH n) ∧ (kP (n : Int)) ∧ (kP 0) ∧ (((kU ([] : List Bx)) : List D) = ([] : List D))) zk ⟨rfl, rfl, rfl, rfl, rfl, rfl, rfl, rfl, (by first | rfl | with_reducible assumption)⟩ ?_
  rintro ⟨⟨i, q, o⟩, hinv0⟩
  obtain ⟨hi, ho, hq⟩ : (i ≤ n ∧ q ≤ i) ∧ (pH xs i = o) ∧ (ka0 o = q) := hinv0
  refine uG (l := [(0, .e (qB xs n)), (4, oV 1 0 q 4), (10, .e (qB xs n)), (11, uV n), (12, uV i)]) (g := [(1, some (63, .ds (kU o)))]) (nx := 2) rfl rfl rfl ?_
  by_cases hx2 : (((i : Nat) : Int) < ((n : Nat) : Int))
  ·refine kI [.b true] (((i : Int) < (n : Int))) [(0, .e (qB xs n)), (4, oV 1 0 q 4), (10, .e (qB xs n)), (11, uV n), (12, uV i), (13, bV true)] [(1, some (63, .ds (kU o)))] 2 zo ?_
   refine AW.seq ?_
   refine vO ?_
   refine AW.seq ?_
   refine AW.block ?_
   obtain ⟨hx3, hx4, hx5, hx6, hx7⟩ := BsW.at (qJ : BsW xs) (i)
   refine kI [.no, .n i, .ds (yU xs i), .no, .no, .no] ((kP (i : Int)) ∧ (i < n) ∧ (ka5 4 (ka3 (i * 4) (kU xs)) = (yU xs i)) ∧ (((yU xs i) : List D).length = 4)) [(0, .e (qB xs n)), (4, oV 1 0 q 4), (5, uV i), (6, rV 2 0), (10, .e (qB xs n)), (11, uV n), (12, uV i)] [(1, some (63, .ds (kU o))), (2, some (63, (u1c xs i)))] 3 ⟨rfl, zo, (vN bG), rfl⟩ ?_
   rcases kb3 (goB xs i) with hx8 | hx8
   ·refine kS [.no, .no, .call [] (bV true) [] 0 [] none, .no] (Fun 61 [.c (.d (D.sl (kU xs) n)), uE i] (kF []) 0 (bV true) (kF []) 0) [(0, .e (qB xs n)), (4, oV 1 0 q 4), (6, rV 2 0), (10, .e (qB xs n)), (11, uV n), (12, uV i), (20, bV false)] (by have h0 := (u0u xs n i zo zo (qJ : BsW xs) zo); rw [hx8] at h0; exact h0) ?_
    refine u9 ?_
    refine aB [.w, .no] (yF ((i : Int) + 1)) [(0, .e (qB xs n)), (4, oV 1 0 q 4), (10, .e (qB xs n)), (11, uV n), (12, iV (↑i + 1))] [(1, some (63, .ds (kU o)))] 3 ⟨by omega, by omega⟩ ?_
    exact Rd.of ⟨(((i + 1) : Nat), (q : Nat), (o : List Bx)), ⟨yE, (by first | exact u9z ho (by assumption) | exact v00 ho (by assumption)), (by first | omega | (simp only [kZ, kY, ka6, ka9, kb0] <;> omega))⟩⟩ [] (P := (kM (kU xs)) ∧ (kH n) ∧ (kH 0) ∧ (kH q) ∧ (kM (kU xs)) ∧ (kH n) ∧ (kP (n : Int)) ∧ (cU i) ∧ (kM (kU o))) zk ⟨rfl, rfl, rfl, rfl, rfl, rfl, rfl, bF, rfl⟩ (show n - (i + 1) < n - i from vW)
   ·refine kS [.no, .no, .call [] (bV false) [] 0 [] none, .no] (Fun 61 [.c (.d (D.sl (kU xs) n)), uE i] (kF []) 0 (bV false) (kF []) 0) [(0, .e (qB xs n)), (4, oV 1 0 q 4), (6, rV 2 0), (10, .e (qB xs n)), (11, uV n), (12, uV i), (20, bV true)] (by have h0 := (u0u xs n i zo zo (qJ : BsW xs) zo); rw [hx8] at h0; exact h0) ?_
    refine zt ?_
    refine aB [.no, .no, .call [] (.e ((oT xs i))) [] 0 [] none, .no, .ap none (q + 1) (kU (o ++ ([(kD (kT xs i) (qE xs i) (k9 xs i) (kW xs i) (qD xs i) (k8 xs i))] : List Bx))), .no] ((_) ∧ ((yU xs i).length = 1 * 4) ∧ (((kU o) : List D).length = q * 4) ∧ ((q + 1) * 80 ≤ 140737488355328) ∧ (q + 1 = (q + 1)) ∧ (((kU o) : List D) ++ (yU xs i) = (kU (o ++ ([(kD (kT xs i) (qE xs i) (k9 xs i) (kW xs i) (qD xs i) (k8 xs i))] : List Bx))))) [(0, .e (qB xs n)), (4, oV 4 0 (q + 1) 4), (10, .e (qB xs n)), (11, uV n), (12, uV i)] [(4, some (63, .ds (kU (o ++ ([(kD (kT xs i) (qE xs i) (k9 xs i) (kW xs i) (qD xs i) (k8 xs i))] : List Bx)))))] 5 ⟨(u8x (kT xs i) (qE xs i) (k9 xs i) (kW xs i) (ka0 (kW xs i)) (qD xs i) (k8 xs i) kN kN rfl kN kN kN (BsW.ms (qJ : BsW xs) _)), vP, vP, zo, zo, (tS o (kT xs i) (qE xs i) (k9 xs i) (kW xs i) (ka0 (kW xs i)) (qD xs i) (k8 xs i) (by first | rfl | omega))⟩ ?_
    refine yK [.w, .no] (yF ((i : Int) + 1)) [(0, .e (qB xs n)), (4, oV 4 0 (q + 1) 4), (10, .e (qB xs n)), (11, uV n), (12, iV (↑i + 1))] ⟨by omega, by omega⟩ ?_
    exact Rd.of ⟨(((i + 1) : Nat), ((q + 1) : Nat), ((o ++ ([(kD (kT xs i) (qE xs i) (k9 xs i) (kW xs i) (qD xs i) (k8 xs i))] : List Bx)) : List Bx)), ⟨yE, (by first | exact u9z ho (by assumption) | exact v00 ho (by assumption)), (by first | omega | (simp only [kZ, kY, ka6, ka9, kb0] <;> omega))⟩⟩ [(1, 4)] (P := (kM (kU xs)) ∧ (kH n) ∧ (kH 0) ∧ (kH (q + 1)) ∧ (kM (kU xs)) ∧ (kH n) ∧ (kP (n : Int)) ∧ (cU i) ∧ (kM (kU (o ++ ([(kD (kT xs i) (qE xs i) (k9 xs i) (kW xs i) (qD xs i) (k8 xs i))] : List Bx))))) zk ⟨rfl, rfl, rfl, rfl, rfl, rfl, rfl, bF, rfl⟩ (show n - (i + 1) < n - i from vW)
  ·refine kI [.b false] (¬ ((i : Int) < (n : Int))) [(0, .e (qB xs n)), (4, oV 1 0 q 4), (10, .e (qB xs n)), (11, uV n), (12, uV i), (13, bV false)] [(1, some (63, .ds (kU o)))] 2 zo ?_
   refine AW.seq ?_
   refine zf ?_
   refine AW.exit ?_
   refine kI [.no, .no, .no] True [(2, oV 1 0 q 4), (3, iV 0)] [(1, some (63, .ds (kU o)))] 2 trivial ?_
   refine AW.freeze 1 (l' := [(2, .e (qB o q)), (3, iV 0)]) (g' := []) rfl (FzS.cons rfl (.e (.c (@FzC.own 1 ((kU o) : List D) 0 q 4 true ((kU o) : List D) rM vP))) (FzS.cons rfl (.same _) FzS.nil)) FzG.nil ?_
   obtain ⟨hz1, hz2⟩ := k64 hx1
   have hz3 : pH xs (ka0 xs) = o := by have h9 := ho; rw [show i = ka0 xs by omega] at h9; exact h9
   refine AW.ret ?_
   exact EndP.of (.inr rfl) [] (P := (((kU (bE xs)) : List D) = (kU o)) ∧ (((ka0 (bE xs)) : Nat) = q) ∧ (((jO xs) : Int) = 0)) zk ⟨(by first | rfl | (rw [hz1]; rfl) | (rw [hz1, hz3]; done) | (rw [hz1, hz3]; rfl) | (rw [hz1, hz3]; omega) | (rw [hz2]; done) | exact hz2 | omega), (by first | rfl | (rw [hz1]; rfl) | (rw [hz1, hz3]; done) | (rw [hz1, hz3]; rfl) | (rw [hz1, hz3]; omega) | (rw [hz2]; done) | exact hz2 | omega), (by first | rfl | (rw [hz1]; rfl) | (rw [hz1, hz3]; done) | (rw [hz1, hz3]; rfl) | (rw [hz1, hz3]; omega) | (rw [hz2]; done) | exact hz2 | omega)⟩
 ·refine kS [.no, .call [] (bV false) [] 0 [] none, .no] (Fun 60 [.c (.d (D.sl (kU xs) n))] (kF []) 0 (bV false) (kF []) 0) [(0, .e (qB xs n)), (9, bV true)] (by have h0 := (v9 xs n zo zo (qJ : BsW xs)); rw [hx1] at h0; exact h0) ?_
  refine zt ?_
  refine kS [.no, .no] True [(2, nV), (3, iV 1)] trivial ?_
  obtain ⟨hz1, hz2⟩ := v03 hx1
  refine vK (l' := [(2, qK ([] : List D) 0), (3, iV 1)]) (g' := []) (NlS.cons rfl (.e (.c .nil)) (NlS.cons rfl (.same _) NlS.nil)) NlG.nil ?_
  refine AW.ret ?_
  exact EndP.of (.inr rfl) [] (P := (((kU (bE xs)) : List D) = ([] : List D)) ∧ (((ka0 (bE xs)) : Nat) = 0) ∧ (((jO xs) : Int) = 1)) zk ⟨(by first | rfl | (rw [hz1]; rfl) | (rw [hz1, hz3]; done) | (rw [hz1, hz3]; rfl) | (rw [hz1, hz3]; omega) | (rw [hz2]; done) | exact hz2 | omega), (by first | rfl | (rw [hz1]; rfl) | (rw [hz1, hz3]; done) | (rw [hz1, hz3]; rfl) | (rw [hz1, hz3]; omega) | (rw [hz2]; done) | exact hz2 | omega), (by first | rfl | (rw [hz1]; rfl) | (rw [hz1, hz3]; done) | (rw [hz1, hz3]; rfl) | (rw [hz1, hz3]; omega) | (rw [hz2]; done) | exact hz2 | omega)⟩
theorem mY {p : Prop} (h : p := by first | assumption | omega | (simp only [kZ, kY, ka6, ka9, kb0] <;> omega)) : p := h
theorem u3n (l : List Int) (n : Nat) (v : Int) (hl : ka0 l = n * 2) (hb : n ≤ 1000000) (hv : -1 ≤ v ∧ v ≤ 2147483647) : Fun 170 [.agg [.d (D.sl (dI .i64 l) n)], iE v] (kF []) 0 (.e (.agg [.d (D.sl (dI .i64 (eD l v n)) (l3 l v n))])) (kF []) 0 := by
 refine Fun.mk (n := 33) Tryz.func170 rfl rfl (ka4 rfl) ?_
 intro cx hcx
 refine kI [.no, .no] True [(1, iV v), (2, rV 0 0), (4, rV 1 0)] [(0, some (60, .ds [dl l n])), (1, some (60, .ds [qQ]))] 2 trivial ?_
 refine kS [.no] True [(1, iV v), (2, rV 0 0), (4, rV 1 0), (5, nV)] trivial ?_
 refine AW.seq ?_
 refine kI (qN 4 []) True [(1, iV v), (4, rV 1 0), (5, nV), (9, sV .i64 l n), (10, uV n), (11, iV 0)] [(1, some (60, .ds [qQ]))] 2 trivial ?_
 refine AW.block ?_
 refine AW.adoptS 5 2 95 rfl ?_
 refine qF 0 hcx (fun (x : {x : Nat × Nat × List Int // match x with | (k, q, o) => (k ≤ n ∧ q ≤ k) ∧ (eD l v k = o) ∧ (ka0 o = q * 2)}) => match x with | ⟨(k, q, o), _⟩ => (⟨[(1, iV v), (4, rV 1 0), (5, oV 3 0 q 2), (9, sV .i64 l n), (10, uV n), (11, uV k)], [(1, some (60, .ds [qQ])), (3, some (95, .ds (dI .i64 o)))], 4⟩ : ES)) (fun x => match x with | ⟨(k, q, o), _⟩ => n - k) ⟨((0 : Nat), (0 : Nat), (([] : List Int) : List Int)), ⟨yE, rfl, rfl⟩⟩ [(3, 2)] (P := (kP v) ∧ (kH 0) ∧ (kH 0) ∧ (kH 0) ∧ (kM (dI .i64 l)) ∧ (kH n) ∧ (kP (n : Int)) ∧ (kP 0) ∧ (kM [qQ]) ∧ (((dI .i64 ([] : List Int)) : List D) = ([] : List D))) zk ⟨rfl, rfl, rfl, rfl, rfl, rfl, rfl, rfl, rfl, (by first | rfl | with_reducible assumption)⟩ ?_
 rintro ⟨⟨k, q, o⟩, hinv0⟩
 obtain ⟨hk, ho, hq⟩ : (k ≤ n ∧ q ≤ k) ∧ (eD l v k = o) ∧ (ka0 o = q * 2) := hinv0
 refine uG (l := [(1, iV v), (4, rV 1 0), (5, oV 3 0 q 2), (9, sV .i64 l n), (10, uV n), (11, uV k)]) (g := [(1, some (60, .ds [qQ])), (3, some (95, .ds (dI .i64 o)))]) (nx := 4) rfl rfl rfl ?_
 by_cases hx1 : (((k : Nat) : Int) < ((n : Nat) : Int))
 ·refine kI [.b true] (((k : Int) < (n : Int))) [(1, iV v), (4, rV 1 0), (5, oV 3 0 q 2), (9, sV .i64 l n), (10, uV n), (11, uV k), (12, bV true)] [(1, some (60, .ds [qQ])), (3, some (95, .ds (dI .i64 o)))] 4 zo ?_
  refine AW.seq ?_
  refine vO ?_
  refine AW.seq ?_
  refine AW.block ?_
  refine kI [.n k, .ds [iD (ka1 l (k * 2) 0), iD (ka1 l ((k * 2) + 1) 0)], .no, .no] ((kP (k : Int)) ∧ (k < n) ∧ (ka5 2 (ka3 (k * 2) (dI .i64 l)) = [iD (ka1 l (k * 2) 0), iD (ka1 l ((k * 2) + 1) 0)]) ∧ (([iD (ka1 l (k * 2) 0), iD (ka1 l ((k * 2) + 1) 0)] : List D).length = 2)) [(1, iV v), (4, rV 1 0), (5, oV 3 0 q 2), (7, rV 4 0), (9, sV .i64 l n), (10, uV n), (11, uV k)] [(1, some (60, .ds [qQ])), (3, some (95, .ds (dI .i64 o))), (4, some (95, .ds [iD (ka1 l (k * 2) 0), iD (ka1 l ((k * 2) + 1) 0)]))] 5 ⟨rfl, zo, (b7 .i64 l (k * 2) 2 vP), rfl⟩ ?_
  by_cases hx2 : (v < (ka1 l ((k * 2) + 1) 0))
  ·refine kS [.no, .no, .no, .b true] ((v < (ka1 l ((k * 2) + 1) 0))) [(1, iV v), (4, rV 1 0), (5, oV 3 0 q 2), (7, rV 4 0), (9, sV .i64 l n), (10, uV n), (11, uV k), (18, bV true)] zo ?_
   refine zt ?_
   refine aB (qN 4 (.w :: qN 5 [.ap none (q + 1) (dI .i64 (o ++ ([(max (ka1 l (k * 2) 0) (v + 1)), (ka1 l ((k * 2) + 1) 0)] : List Int))), .no])) ((yF (v + 1)) ∧ ([iD (max (ka1 l (k * 2) 0) (v + 1)), iD (ka1 l ((k * 2) + 1) 0)].length = 1 * 2) ∧ (((dI .i64 o) : List D).length = q * 2) ∧ ((q + 1) * 16 ≤ 140737488355328) ∧ (q + 1 = (q + 1)) ∧ (((dI .i64 o) : List D) ++ [iD (max (ka1 l (k * 2) 0) (v + 1)), iD (ka1 l ((k * 2) + 1) 0)] = (dI .i64 (o ++ ([(max (ka1 l (k * 2) 0) (v + 1)), (ka1 l ((k * 2) + 1) 0)] : List Int))))) [(1, iV v), (4, rV 1 0), (5, oV 6 0 (q + 1) 2), (9, sV .i64 l n), (10, uV n), (11, uV k)] [(1, some (60, .ds [qQ])), (6, some (95, .ds (dI .i64 (o ++ ([(max (ka1 l (k * 2) 0) (v + 1)), (ka1 l ((k * 2) + 1) 0)] : List Int)))))] 7 ⟨⟨by omega, by omega⟩, vP, vP, zo, zo, (y4 .i64 o ([(max (ka1 l (k * 2) 0) (v + 1)), (ka1 l ((k * 2) + 1) 0)] : List Int))⟩ ?_
   refine yK [.w, .no] (yF ((k : Int) + 1)) [(1, iV v), (4, rV 1 0), (5, oV 6 0 (q + 1) 2), (9, sV .i64 l n), (10, uV n), (11, iV (↑k + 1))] ⟨by omega, by omega⟩ ?_
   exact Rd.of ⟨(((k + 1) : Nat), ((q + 1) : Nat), ((o ++ ([(max (ka1 l (k * 2) 0) (v + 1)), (ka1 l ((k * 2) + 1) 0)] : List Int)) : List Int)), ⟨yE, (by first | exact v2h ho zo (by first | rfl | (rw [Int.max_def]; split <;> omega)) rfl | exact v2i ho zo), mY⟩⟩ [(3, 6)] (P := (kP v) ∧ (kH 0) ∧ (kH 0) ∧ (kH (q + 1)) ∧ (kM (dI .i64 l)) ∧ (kH n) ∧ (kP (n : Int)) ∧ (cU k) ∧ (kM [qQ]) ∧ (kM (dI .i64 (o ++ ([(max (ka1 l (k * 2) 0) (v + 1)), (ka1 l ((k * 2) + 1) 0)] : List Int))))) zk ⟨rfl, rfl, rfl, rfl, rfl, rfl, rfl, bF, rfl, rfl⟩ (show n - (k + 1) < n - k from vW)
  ·refine kS [.no, .no, .no, .b false] (¬ (v < (ka1 l ((k * 2) + 1) 0))) [(1, iV v), (4, rV 1 0), (5, oV 3 0 q 2), (7, rV 4 0), (9, sV .i64 l n), (10, uV n), (11, uV k), (18, bV false)] zo ?_
   refine u9 ?_
   refine aB [.w, .no] (yF ((k : Int) + 1)) [(1, iV v), (4, rV 1 0), (5, oV 3 0 q 2), (9, sV .i64 l n), (10, uV n), (11, iV (↑k + 1))] [(1, some (60, .ds [qQ])), (3, some (95, .ds (dI .i64 o)))] 5 ⟨by omega, by omega⟩ ?_
   exact Rd.of ⟨(((k + 1) : Nat), (q : Nat), (o : List Int)), ⟨yE, (by first | exact v2h ho zo (by first | rfl | (rw [Int.max_def]; split <;> omega)) rfl | exact v2i ho zo), mY⟩⟩ [] (P := (kP v) ∧ (kH 0) ∧ (kH 0) ∧ (kH q) ∧ (kM (dI .i64 l)) ∧ (kH n) ∧ (kP (n : Int)) ∧ (cU k) ∧ (kM [qQ]) ∧ (kM (dI .i64 o))) zk ⟨rfl, rfl, rfl, rfl, rfl, rfl, rfl, bF, rfl, rfl⟩ (show n - (k + 1) < n - k from vW)
 ·refine kI [.b false] (¬ ((k : Int) < (n : Int))) [(1, iV v), (4, rV 1 0), (5, oV 3 0 q 2), (9, sV .i64 l n), (10, uV n), (11, uV k), (12, bV false)] [(1, some (60, .ds [qQ])), (3, some (95, .ds (dI .i64 o)))] 4 zo ?_
  refine AW.seq ?_
  refine zf ?_
  refine AW.exit ?_
  refine kI [.no, .no, .no] True [(4, rV 1 0)] [(1, some (60, .cs [.own 3 0 q 2 true])), (3, some (95, .ds (dI .i64 o)))] 4 trivial ?_
  refine AW.freeze 3 (l' := [(4, rV 1 0)]) (g' := [(1, some (60, .ds [dl o q]))]) rfl (FzS.cons rfl (.same _) FzS.nil) (FzG.to (bc := .cs [.own 3 0 q 2 true]) rfl (by rfl) (FzL.cons (@FzC.own 3 ((dI .i64 o) : List D) 0 q 2 true ((dI .i64 o) : List D) rM vP) FzL.nil) FzG.nil) ?_
  have hz1 : eD l v n = o := by have h9 := ho; rw [show k = n by omega] at h9; exact h9
  have hz2 : l3 l v n = q := by unfold l3; rw [hz1]; omega
  refine AW.ret ?_
  exact EndP.of (.inr rfl) [] (P := (((dI .i64 (eD l v n)) : List D) = (dI .i64 o)) ∧ (((l3 l v n) : Nat) = q)) zk ⟨(by first | rfl | (rw [hz1]; done) | exact hz2 | exact congrArg _ hz1 | omega), (by first | rfl | (rw [hz1]; done) | exact hz2 | exact congrArg _ hz1 | omega)⟩
theorem k03 {p : Prop} (h : p := by first | exact u7a (by omega) | exact v49 (by omega) | exact v4a (by omega) (by omega)) : p := h
theorem lP (a b : List Int) (n m : Nat) (ha : ka0 a = n * 2) (hb : ka0 b = m * 2) (h3 : n ≤ 1000000) (h4 : m ≤ 1000000) : Fun 160 [.agg [.d (D.sl (dI .i64 a) n)], .agg [.d (D.sl (dI .i64 b) m)]] (kF []) 0 (.tup [.agg [.d (D.sl (dI .i64 (uN (kB a n) (kB b m))) (qT (kB a n) (kB b m)))], .c (.d (D.lit (.bool (mI a n b m))))]) (kF []) 0 := by
 refine Fun.mk (n := 30) Tryz.func160 rfl rfl (ka4 rfl) ?_
 intro cx hcx
 refine kI (qN 4 []) True [(2, rV 0 0), (3, rV 1 0), (4, rV 2 0)] [(0, some (60, .ds [dl a n])), (1, some (60, .ds [dl b m])), (2, some (60, .ds [qQ]))] 3 trivial ?_
 have hx1 : ((ka0 (uN (kB a n) (kB b m))) = ((qT (kB a n) (kB b m)) * 2)) := u4 _ _
 have hx2 : ((qT (kB a n) (kB b m)) ≤ 64) := aG _ _
 refine kI [.no, .no, .call [] (.e (.agg [.d (dl (uN (kB a n) (kB b m)) (qT (kB a n) (kB b m)))])) [] 0 [] none, .no, .no] _ [(2, rV 0 0), (3, rV 1 0), (4, rV 2 0), (6, rV 3 0)] [(0, some (60, .ds [dl a n])), (1, some (60, .ds [dl b m])), (2, some (60, .ds [qQ])), (3, some (60, .ds [dl (uN (kB a n) (kB b m)) (qT (kB a n) (kB b m))]))] 4 (gJ a b n m zo zo zo zo) ?_
 refine AW.seq ?_
 by_cases hx3 : ((((qT (kB a n) (kB b m)) : Nat) : Int) < 64)
 ·refine kS [.no, .no, .no, .b true] (((qT (kB a n) (kB b m) : Int) < 64)) [(2, rV 0 0), (3, rV 1 0), (4, rV 2 0), (6, rV 3 0), (14, bV true)] zo ?_
  refine zt ?_
  refine kI [.no, .no, .no] True [(4, rV 2 0), (5, bV true)] [(2, some (60, .ds [dl (uN (kB a n) (kB b m)) (qT (kB a n) (kB b m))]))] 4 trivial ?_
  refine AW.ret ?_
  exact EndP.of (.inr rfl) [] (P := (kM (dI .i64 (uN (kB a n) (kB b m)))) ∧ (kH (qT (kB a n) (kB b m))) ∧ ((mI a n b m) = true)) zk ⟨rfl, rfl, k03⟩
 ·refine kS [.no, .no, .no, .b false] (¬ ((qT (kB a n) (kB b m) : Int) < 64)) [(2, rV 0 0), (3, rV 1 0), (4, rV 2 0), (6, rV 3 0), (14, bV false)] zo ?_
  refine u9 ?_
  have hx4 : 0 ≤ ka1 (uN (kB a n) (kB b m)) 127 0 ∧ ka1 (uN (kB a n) (kB b m)) 127 0 ≤ 2147483647 := v1a ha hb zo
  have hx5 : ((ka0 (eD a (ka1 (uN (kB a n) (kB b m)) 127 0) n)) = ((l3 a (ka1 (uN (kB a n) (kB b m)) 127 0) n) * 2)) := (tZ a (ka1 (uN (kB a n) (kB b m)) 127 0) n).1
  have hx6 : ((l3 a (ka1 (uN (kB a n) (kB b m)) 127 0) n) ≤ n) := (tZ a (ka1 (uN (kB a n) (kB b m)) 127 0) n).2
  have hx7 : ((ka0 (uN (kB (eD a (ka1 (uN (kB a n) (kB b m)) 127 0) n) (l3 a (ka1 (uN (kB a n) (kB b m)) 127 0) n)) (kB b m))) = ((qT (kB (eD a (ka1 (uN (kB a n) (kB b m)) 127 0) n) (l3 a (ka1 (uN (kB a n) (kB b m)) 127 0) n)) (kB b m)) * 2)) := u4 _ _
  have hx8 : ((qT (kB (eD a (ka1 (uN (kB a n) (kB b m)) 127 0) n) (l3 a (ka1 (uN (kB a n) (kB b m)) 127 0) n)) (kB b m)) ≤ 64) := aG _ _
  refine kI [.no, .no, .no, .n 63, .no, .d (D.lit (.int .i64 (ka1 (uN (kB a n) (kB b m)) 127 0))), .call [] (.e (.agg [.d (dl (eD a (ka1 (uN (kB a n) (kB b m)) 127 0) n) (l3 a (ka1 (uN (kB a n) (kB b m)) 127 0) n))])) [] 0 [] none, .no, .call [] (.e (.agg [.d (dl (uN (kB (eD a (ka1 (uN (kB a n) (kB b m)) 127 0) n) (l3 a (ka1 (uN (kB a n) (kB b m)) 127 0) n)) (kB b m)) (qT (kB (eD a (ka1 (uN (kB a n) (kB b m)) 127 0) n) (l3 a (ka1 (uN (kB a n) (kB b m)) 127 0) n)) (kB b m)))])) [] 0 [] none, .no, .no] ((kP 63) ∧ ((63 : Nat) < (qT (kB a n) (kB b m))) ∧ ((ka3 1 (ka3 126 (dI .i64 (uN (kB a n) (kB b m)))))[0]? = some (D.lit (.int .i64 (ka1 (uN (kB a n) (kB b m)) 127 0)))) ∧ (_) ∧ (_)) [(4, rV 2 0), (6, rV 3 0), (7, rV 4 0)] [(2, some (60, .ds [qQ])), (3, some (60, .ds [dl (uN (kB a n) (kB b m)) (qT (kB a n) (kB b m))])), (4, some (60, .ds [dl (uN (kB (eD a (ka1 (uN (kB a n) (kB b m)) 127 0) n) (l3 a (ka1 (uN (kB a n) (kB b m)) 127 0) n)) (kB b m)) (qT (kB (eD a (ka1 (uN (kB a n) (kB b m)) 127 0) n) (l3 a (ka1 (uN (kB a n) (kB b m)) 127 0) n)) (kB b m))]))] 5 ⟨rfl, zo, (by first | (rw [kc8]; exact yG _ _ _ vP) | (rw [kc8, Nat.add_comm]; exact yG _ _ _ vP)), (u3n a n (ka1 (uN (kB a n) (kB b m)) 127 0) zo zo kN), (gJ (eD a (ka1 (uN (kB a n) (kB b m)) 127 0) n) b (l3 a (ka1 (uN (kB a n) (kB b m)) 127 0) n) m kN zo kN zo)⟩ ?_
  by_cases hx9 : ((((qT (kB (eD a (ka1 (uN (kB a n) (kB b m)) 127 0) n) (l3 a (ka1 (uN (kB a n) (kB b m)) 127 0) n)) (kB b m)) : Nat) : Int) = 0)
  ·refine kI (qN 4 [.b true, .no, .no]) (((((qT (kB (eD a (ka1 (uN (kB a n) (kB b m)) 127 0) n) (l3 a (ka1 (uN (kB a n) (kB b m)) 127 0) n)) (kB b m)) : Nat) : Int) = 0)) [(4, rV 2 0), (5, bV true)] [(2, some (60, .ds [dl (uN (kB a n) (kB b m)) (qT (kB a n) (kB b m))]))] 5 zo ?_
   refine AW.ret ?_
   exact EndP.of (.inr rfl) [] (P := (kM (dI .i64 (uN (kB a n) (kB b m)))) ∧ (kH (qT (kB a n) (kB b m))) ∧ ((mI a n b m) = true)) zk ⟨rfl, rfl, k03⟩
  ·refine kI (qN 4 [.b false, .no, .no]) (¬ ((((qT (kB (eD a (ka1 (uN (kB a n) (kB b m)) 127 0) n) (l3 a (ka1 (uN (kB a n) (kB b m)) 127 0) n)) (kB b m)) : Nat) : Int) = 0)) [(4, rV 2 0), (5, bV false)] [(2, some (60, .ds [dl (uN (kB a n) (kB b m)) (qT (kB a n) (kB b m))]))] 5 zo ?_
   refine AW.ret ?_
   exact EndP.of (.inr rfl) [] (P := (kM (dI .i64 (uN (kB a n) (kB b m)))) ∧ (kH (qT (kB a n) (kB b m))) ∧ ((mI a n b m) = false)) zk ⟨rfl, rfl, k03⟩
theorem rL {p : Prop} (h : p := by first | exact u68 (by assumption) (by assumption) | exact v39 (by assumption) | exact v38 (by assumption)) : p := h
abbrev eL : BC := .ds [iD 0, D.lit (.slice none 0 0), D.lit (.slice none 0 0), D.lit (.slice none 0 0)]
abbrev mD (k : Int) (k2 : Int) (r : List Int) (rn : Nat) (r2 : List Int) (rn2 : Nat) (m : List (List Int)) (m2 : List (List Int)) (c : Nat) (s : List Int) (sn : Nat) (s2 : List Int) (sn2 : Nat) : BC := .ds [iD (qH k k2), D.sl (dI .i64 (uN (kB r rn) (kB r2 rn2))) (qT (kB r rn) (kB r2 rn2)), D.sl (kK (u5 m m2 c)) (ka0 (u5 m m2 c)), D.sl (dI .i64 (uN (kB s sn) (kB s2 sn2))) (qT (kB s sn) (kB s2 sn2))]
abbrev fX (r : List Int) (rn : Nat) (r2 : List Int) (rn2 : Nat) : BC := .ds [D.sl (dI .i64 (uN (kB r rn) (kB r2 rn2))) (qT (kB r rn) (kB r2 rn2))]
theorem k3q (k : Int) (r : List Int) (rn : Nat) (m : List (List Int)) (c : Nat) (s : List Int) (sn : Nat) (k2 : Int) (r2 : List Int) (rn2 : Nat) (m2 : List (List Int)) (c2 : Nat) (s2 : List Int) (sn2 : Nat) (hr : ka0 r = rn * 2) (hs : ka0 s = sn * 2) (hc : ka0 m = c) (h1 : rn ≤ 1000000) (h2 : sn ≤ 1000000) (h3 : c ≤ 1000000) (hW : MsW m) (hr2 : ka0 r2 = rn2 * 2) (hs2 : ka0 s2 = sn2 * 2) (hc2 : ka0 m2 = c2) (h12 : rn2 ≤ 1000000) (h22 : sn2 ≤ 1000000) (h32 : c2 ≤ 1000000) (hW2 : MsW m2) : Fun 134 [.agg [iC k, .d (D.sl (dI .i64 r) rn), .d (D.sl (kK m) c), .d (D.sl (dI .i64 s) sn)], .agg [iC k2, .d (D.sl (dI .i64 r2) rn2), .d (D.sl (kK m2) c2), .d (D.sl (dI .i64 s2) sn2)]] (kF []) 0 (.tup [.agg [iC (qH k k2), .d (D.sl (dI .i64 (uN (kB r rn) (kB r2 rn2))) (qT (kB r rn) (kB r2 rn2))), .d (D.sl (kK (u5 m m2 c)) (ka0 (u5 m m2 c))), .d (D.sl (dI .i64 (uN (kB s sn) (kB s2 sn2))) (qT (kB s sn) (kB s2 sn2)))], .c (.d (D.lit (.bool (xsB r rn r2 rn2 s sn s2 sn2))))]) (kF []) 0 := by
 refine Fun.mk (n := 43) Tryz.func134 rfl rfl (ka4 rfl) ?_
 intro cx hcx
 refine kI (qN 4 []) True [(2, rV 0 0), (3, rV 1 0), (4, rV 2 0)] [(0, some (63, .ds [iD k, dl r rn, D.sl (kK m) c, dl s sn])), (1, some (63, .ds [iD k2, dl r2 rn2, D.sl (kK m2) c2, dl s2 sn2])), (2, some (63, eL))] 3 trivial ?_
 rcases kb3 (mI r rn r2 rn2) with hx1 | hx1
 ·have hx2 : ((ka0 (uN (kB r rn) (kB r2 rn2))) = ((qT (kB r rn) (kB r2 rn2)) * 2)) := u4 _ _
  have hx3 : ((qT (kB r rn) (kB r2 rn2)) ≤ 64) := aG _ _
  refine kI (qN 4 (.call [] (.tup [.agg [.d (dl (uN (kB r rn) (kB r2 rn2)) (qT (kB r rn) (kB r2 rn2)))], .c (.d (D.lit (.bool true)))]) [] 0 [] none :: qN 6 [])) (Fun 160 [.agg [.d (dl r rn)], .agg [.d (dl r2 rn2)]] (kF []) 0 (.tup [.agg [.d (dl (uN (kB r rn) (kB r2 rn2)) (qT (kB r rn) (kB r2 rn2)))], .c (.d (D.lit (.bool true)))]) (kF []) 0) [(2, rV 0 0), (3, rV 1 0), (4, rV 2 0), (6, rV 3 0), (7, bV true)] [(0, some (63, .ds [iD k, dl r rn, D.sl (kK m) c, dl s sn])), (1, some (63, .ds [iD k2, dl r2 rn2, D.sl (kK m2) c2, dl s2 sn2])), (2, some (63, eL)), (3, some (60, (fX r rn r2 rn2)))] 4 (by have h0 := (lP r r2 rn rn2 zo zo zo zo); rw [hx1] at h0; exact h0) ?_
  rcases kb3 (mI s sn s2 sn2) with hx4 | hx4
  ·have hx5 : ((ka0 (uN (kB s sn) (kB s2 sn2))) = ((qT (kB s sn) (kB s2 sn2)) * 2)) := u4 _ _
   have hx6 : ((qT (kB s sn) (kB s2 sn2)) ≤ 64) := aG _ _
   refine kI (qN 4 (.call [] (.tup [.agg [.d (dl (uN (kB s sn) (kB s2 sn2)) (qT (kB s sn) (kB s2 sn2)))], .c (.d (D.lit (.bool true)))]) [] 0 [] none :: qN 6 [])) (Fun 160 [.agg [.d (dl s sn)], .agg [.d (dl s2 sn2)]] (kF []) 0 (.tup [.agg [.d (dl (uN (kB s sn) (kB s2 sn2)) (qT (kB s sn) (kB s2 sn2)))], .c (.d (D.lit (.bool true)))]) (kF []) 0) [(2, rV 0 0), (3, rV 1 0), (4, rV 2 0), (6, rV 3 0), (7, bV true), (8, rV 4 0), (9, bV true)] [(0, some (63, .ds [iD k, dl r rn, D.sl (kK m) c, dl s sn])), (1, some (63, .ds [iD k2, dl r2 rn2, D.sl (kK m2) c2, dl s2 sn2])), (2, some (63, eL)), (3, some (60, (fX r rn r2 rn2))), (4, some (60, .ds [dl (uN (kB s sn) (kB s2 sn2)) (qT (kB s sn) (kB s2 sn2))]))] 5 (by have h0 := (lP s s2 sn sn2 zo zo zo zo); rw [hx4] at h0; exact h0) ?_
   have hx7 : ((ka0 (u5 m m2 c)) ≤ c) := cW m m2 c
   refine kI (qN 4 (.i (qH k k2) :: qN 5 (.call [] (qK (kK (u5 m m2 c)) (ka0 (u5 m m2 c))) [] 0 [] none :: qN 8 []))) ((qM .and .i64 k k2 = (qH k k2)) ∧ (_)) [(4, rV 2 0), (5, bV true)] [(2, some (63, (mD k k2 r rn r2 rn2 m m2 c s sn s2 sn2)))] 5 ⟨rfl, (k54 m m2 c c2 zo zo zo zo (qJ : MsW m) (qJ : MsW m2))⟩ ?_
   refine AW.ret ?_
   exact EndP.of (.inr rfl) [] (P := (kP (qH k k2)) ∧ (kM (dI .i64 (uN (kB r rn) (kB r2 rn2)))) ∧ (kH (qT (kB r rn) (kB r2 rn2))) ∧ (kM (kK (u5 m m2 c))) ∧ (kH (ka0 (u5 m m2 c))) ∧ (kM (dI .i64 (uN (kB s sn) (kB s2 sn2)))) ∧ (kH (qT (kB s sn) (kB s2 sn2))) ∧ ((xsB r rn r2 rn2 s sn s2 sn2) = true)) zk ⟨rfl, rfl, rfl, rfl, rfl, rfl, rfl, rL⟩
  ·have hx8 : ((ka0 (uN (kB s sn) (kB s2 sn2))) = ((qT (kB s sn) (kB s2 sn2)) * 2)) := u4 _ _
   have hx9 : ((qT (kB s sn) (kB s2 sn2)) ≤ 64) := aG _ _
   refine kI (qN 4 (.call [] (.tup [.agg [.d (dl (uN (kB s sn) (kB s2 sn2)) (qT (kB s sn) (kB s2 sn2)))], .c (.d (D.lit (.bool false)))]) [] 0 [] none :: qN 6 [])) (Fun 160 [.agg [.d (dl s sn)], .agg [.d (dl s2 sn2)]] (kF []) 0 (.tup [.agg [.d (dl (uN (kB s sn) (kB s2 sn2)) (qT (kB s sn) (kB s2 sn2)))], .c (.d (D.lit (.bool false)))]) (kF []) 0) [(2, rV 0 0), (3, rV 1 0), (4, rV 2 0), (6, rV 3 0), (7, bV true), (8, rV 4 0), (9, bV false)] [(0, some (63, .ds [iD k, dl r rn, D.sl (kK m) c, dl s sn])), (1, some (63, .ds [iD k2, dl r2 rn2, D.sl (kK m2) c2, dl s2 sn2])), (2, some (63, eL)), (3, some (60, (fX r rn r2 rn2))), (4, some (60, .ds [dl (uN (kB s sn) (kB s2 sn2)) (qT (kB s sn) (kB s2 sn2))]))] 5 (by have h0 := (lP s s2 sn sn2 zo zo zo zo); rw [hx4] at h0; exact h0) ?_
   have hx10 : ((ka0 (u5 m m2 c)) ≤ c) := cW m m2 c
   refine kI (qN 4 (.i (qH k k2) :: qN 5 (.call [] (qK (kK (u5 m m2 c)) (ka0 (u5 m m2 c))) [] 0 [] none :: qN 8 []))) ((qM .and .i64 k k2 = (qH k k2)) ∧ (_)) [(4, rV 2 0), (5, bV false)] [(2, some (63, (mD k k2 r rn r2 rn2 m m2 c s sn s2 sn2)))] 5 ⟨rfl, (k54 m m2 c c2 zo zo zo zo (qJ : MsW m) (qJ : MsW m2))⟩ ?_
   refine AW.ret ?_
   exact EndP.of (.inr rfl) [] (P := (kP (qH k k2)) ∧ (kM (dI .i64 (uN (kB r rn) (kB r2 rn2)))) ∧ (kH (qT (kB r rn) (kB r2 rn2))) ∧ (kM (kK (u5 m m2 c))) ∧ (kH (ka0 (u5 m m2 c))) ∧ (kM (dI .i64 (uN (kB s sn) (kB s2 sn2)))) ∧ (kH (qT (kB s sn) (kB s2 sn2))) ∧ ((xsB r rn r2 rn2 s sn s2 sn2) = false)) zk ⟨rfl, rfl, rfl, rfl, rfl, rfl, rfl, rL⟩
 ·have hx11 : ((ka0 (uN (kB r rn) (kB r2 rn2))) = ((qT (kB r rn) (kB r2 rn2)) * 2)) := u4 _ _
  have hx12 : ((qT (kB r rn) (kB r2 rn2)) ≤ 64) := aG _ _
  refine kI (qN 4 (.call [] (.tup [.agg [.d (dl (uN (kB r rn) (kB r2 rn2)) (qT (kB r rn) (kB r2 rn2)))], .c (.d (D.lit (.bool false)))]) [] 0 [] none :: qN 6 [])) (Fun 160 [.agg [.d (dl r rn)], .agg [.d (dl r2 rn2)]] (kF []) 0 (.tup [.agg [.d (dl (uN (kB r rn) (kB r2 rn2)) (qT (kB r rn) (kB r2 rn2)))], .c (.d (D.lit (.bool false)))]) (kF []) 0) [(2, rV 0 0), (3, rV 1 0), (4, rV 2 0), (6, rV 3 0), (7, bV false)] [(0, some (63, .ds [iD k, dl r rn, D.sl (kK m) c, dl s sn])), (1, some (63, .ds [iD k2, dl r2 rn2, D.sl (kK m2) c2, dl s2 sn2])), (2, some (63, eL)), (3, some (60, (fX r rn r2 rn2)))] 4 (by have h0 := (lP r r2 rn rn2 zo zo zo zo); rw [hx1] at h0; exact h0) ?_
  rcases kb3 (mI s sn s2 sn2) with hx13 | hx13
  ·have hx14 : ((ka0 (uN (kB s sn) (kB s2 sn2))) = ((qT (kB s sn) (kB s2 sn2)) * 2)) := u4 _ _
   have hx15 : ((qT (kB s sn) (kB s2 sn2)) ≤ 64) := aG _ _
   refine kI (qN 4 (.call [] (.tup [.agg [.d (dl (uN (kB s sn) (kB s2 sn2)) (qT (kB s sn) (kB s2 sn2)))], .c (.d (D.lit (.bool true)))]) [] 0 [] none :: qN 6 [])) (Fun 160 [.agg [.d (dl s sn)], .agg [.d (dl s2 sn2)]] (kF []) 0 (.tup [.agg [.d (dl (uN (kB s sn) (kB s2 sn2)) (qT (kB s sn) (kB s2 sn2)))], .c (.d (D.lit (.bool true)))]) (kF []) 0) [(2, rV 0 0), (3, rV 1 0), (4, rV 2 0), (6, rV 3 0), (7, bV false), (8, rV 4 0), (9, bV true)] [(0, some (63, .ds [iD k, dl r rn, D.sl (kK m) c, dl s sn])), (1, some (63, .ds [iD k2, dl r2 rn2, D.sl (kK m2) c2, dl s2 sn2])), (2, some (63, eL)), (3, some (60, (fX r rn r2 rn2))), (4, some (60, .ds [dl (uN (kB s sn) (kB s2 sn2)) (qT (kB s sn) (kB s2 sn2))]))] 5 (by have h0 := (lP s s2 sn sn2 zo zo zo zo); rw [hx13] at h0; exact h0) ?_
   have hx16 : ((ka0 (u5 m m2 c)) ≤ c) := cW m m2 c
   refine kI (qN 4 (.i (qH k k2) :: qN 5 (.call [] (qK (kK (u5 m m2 c)) (ka0 (u5 m m2 c))) [] 0 [] none :: qN 7 []))) ((qM .and .i64 k k2 = (qH k k2)) ∧ (_)) [(4, rV 2 0), (5, bV false)] [(2, some (63, (mD k k2 r rn r2 rn2 m m2 c s sn s2 sn2)))] 5 ⟨rfl, (k54 m m2 c c2 zo zo zo zo (qJ : MsW m) (qJ : MsW m2))⟩ ?_
   refine AW.ret ?_
   exact EndP.of (.inr rfl) [] (P := (kP (qH k k2)) ∧ (kM (dI .i64 (uN (kB r rn) (kB r2 rn2)))) ∧ (kH (qT (kB r rn) (kB r2 rn2))) ∧ (kM (kK (u5 m m2 c))) ∧ (kH (ka0 (u5 m m2 c))) ∧ (kM (dI .i64 (uN (kB s sn) (kB s2 sn2)))) ∧ (kH (qT (kB s sn) (kB s2 sn2))) ∧ ((xsB r rn r2 rn2 s sn s2 sn2) = false)) zk ⟨rfl, rfl, rfl, rfl, rfl, rfl, rfl, rL⟩
  ·have hx17 : ((ka0 (uN (kB s sn) (kB s2 sn2))) = ((qT (kB s sn) (kB s2 sn2)) * 2)) := u4 _ _
   have hx18 : ((qT (kB s sn) (kB s2 sn2)) ≤ 64) := aG _ _
   refine kI (qN 4 (.call [] (.tup [.agg [.d (dl (uN (kB s sn) (kB s2 sn2)) (qT (kB s sn) (kB s2 sn2)))], .c (.d (D.lit (.bool false)))]) [] 0 [] none :: qN 6 [])) (Fun 160 [.agg [.d (dl s sn)], .agg [.d (dl s2 sn2)]] (kF []) 0 (.tup [.agg [.d (dl (uN (kB s sn) (kB s2 sn2)) (qT (kB s sn) (kB s2 sn2)))], .c (.d (D.lit (.bool false)))]) (kF []) 0) [(2, rV 0 0), (3, rV 1 0), (4, rV 2 0), (6, rV 3 0), (7, bV false), (8, rV 4 0), (9, bV false)] [(0, some (63, .ds [iD k, dl r rn, D.sl (kK m) c, dl s sn])), (1, some (63, .ds [iD k2, dl r2 rn2, D.sl (kK m2) c2, dl s2 sn2])), (2, some (63, eL)), (3, some (60, (fX r rn r2 rn2))), (4, some (60, .ds [dl (uN (kB s sn) (kB s2 sn2)) (qT (kB s sn) (kB s2 sn2))]))] 5 (by have h0 := (lP s s2 sn sn2 zo zo zo zo); rw [hx13] at h0; exact h0) ?_
   have hx19 : ((ka0 (u5 m m2 c)) ≤ c) := cW m m2 c
   refine kI (qN 4 (.i (qH k k2) :: qN 5 (.call [] (qK (kK (u5 m m2 c)) (ka0 (u5 m m2 c))) [] 0 [] none :: qN 7 []))) ((qM .and .i64 k k2 = (qH k k2)) ∧ (_)) [(4, rV 2 0), (5, bV false)] [(2, some (63, (mD k k2 r rn r2 rn2 m m2 c s sn s2 sn2)))] 5 ⟨rfl, (k54 m m2 c c2 zo zo zo zo (qJ : MsW m) (qJ : MsW m2))⟩ ?_
   refine AW.ret ?_
   exact EndP.of (.inr rfl) [] (P := (kP (qH k k2)) ∧ (kM (dI .i64 (uN (kB r rn) (kB r2 rn2)))) ∧ (kH (qT (kB r rn) (kB r2 rn2))) ∧ (kM (kK (u5 m m2 c))) ∧ (kH (ka0 (u5 m m2 c))) ∧ (kM (dI .i64 (uN (kB s sn) (kB s2 sn2)))) ∧ (kH (qT (kB s sn) (kB s2 sn2))) ∧ ((xsB r rn r2 rn2 s sn s2 sn2) = false)) zk ⟨rfl, rfl, rfl, rfl, rfl, rfl, rfl, rL⟩
abbrev u7 (a : List Bx) (i : Nat) (b : List Bx) (j : Nat) := uN (kB (qE a i) (k9 a i)) (kB (qE b j) (k9 b j))
abbrev u0 (a : List Bx) (i : Nat) (b : List Bx) (j : Nat) := qT (kB (qE a i) (k9 a i)) (kB (qE b j) (k9 b j))
abbrev qS (a : List Bx) (i : Nat) (b : List Bx) (j : Nat) := u5 (kW a i) (kW b j) (ka0 (kW a i))
abbrev u6 (a : List Bx) (i : Nat) (b : List Bx) (j : Nat) := uN (kB (qD a i) (k8 a i)) (kB (qD b j) (k8 b j))
abbrev uZ (a : List Bx) (i : Nat) (b : List Bx) (j : Nat) := qT (kB (qD a i) (k8 a i)) (kB (qD b j) (k8 b j))
abbrev iN (a : List Bx) (i : Nat) (b : List Bx) (j : Nat) := kD (qH (kT a i) (kT b j)) (u7 a i b j) (u0 a i b j) (qS a i b j) (u6 a i b j) (uZ a i b j)
abbrev aX (a : List Bx) (i : Nat) : BC := .ds [iD (kT a i), D.sl (dI .i64 (qE a i)) (k9 a i), D.sl (kK (kW a i)) (ka0 (kW a i)), D.sl (dI .i64 (qD a i)) (k8 a i)]
abbrev k1z (a : List Bx) (i : Nat) (b : List Bx) (j : Nat) : BC := .ds [iD (qH (kT a i) (kT b j)), D.sl (dI .i64 (u7 a i b j)) (u0 a i b j), D.sl (kK (qS a i b j)) (ka0 (qS a i b j)), D.sl (dI .i64 (u6 a i b j)) (uZ a i b j)]
theorem v2w (a b : List Bx) (n m : Nat) (hn : ka0 a = n) (hm : ka0 b = m) (h1 : n ≤ 1000) (h2 : m ≤ 1000) (hW : BsW a) (hV : BsW b) : Fun 97 [.c (.d (D.sl (kU a) n)), .c (.d (D.sl (kU b) m))] (kF []) 0 (.tup [.c (.d (D.sl (kU (yS a b)) (ka0 (yS a b)))), iE (fD a b)]) (kF []) 0 := by
 refine Fun.mk (n := 59) Tryz.func97 rfl rfl (ka4 rfl) ?_
 intro cx hcx
 refine kI [.no, .no] True [(0, .e (qB a n)), (1, .e (qB b m))] [] 0 trivial ?_
 refine AW.seq ?_
 rcases kb3 (c8 a) with hx1 | hx1
 ·rcases kb3 (c8 b) with hx2 | hx2
  ·refine kS [.no, .call [] (bV true) [] 0 [] none, .no, .no, .no, .call [] (bV true) [] 0 [] none, .no, .no] ((Fun 60 [.c (.d (D.sl (kU a) n))] (kF []) 0 (bV true) (kF []) 0) ∧ (Fun 60 [.c (.d (D.sl (kU b) m))] (kF []) 0 (bV true) (kF []) 0)) [(0, .e (qB a n)), (1, .e (qB b m)), (20, bV false)] ⟨(by have h0 := (v9 a n zo zo (qJ : BsW a)); rw [hx1] at h0; exact h0), (by have h0 := (v9 b m zo zo (qJ : BsW b)); rw [hx2] at h0; exact h0)⟩ ?_
   refine u9 ?_
   refine kS [.no] True [(0, .e (qB a n)), (1, .e (qB b m)), (6, nV)] trivial ?_
   refine AW.seq ?_
   refine kS [.no, .no, .no] True [(1, .e (qB b m)), (6, nV), (21, .e (qB a n)), (22, uV n), (23, iV 0)] trivial ?_
   refine AW.block ?_
   refine AW.adoptS 6 4 63 rfl ?_
   refine qF 0 hcx (fun (x : {x : Nat × Nat × List Bx // match x with | (i, q, o) => (i ≤ n) ∧ (CI a b i o) ∧ (ka0 o = q ∧ q ≤ 64) ∧ (BsW o)}) => match x with | ⟨(i, q, o), _⟩ => (⟨[(1, .e (qB b m)), (6, oV 1 0 q 4), (21, .e (qB a n)), (22, uV n), (23, uV i)], [(1, some (63, .ds (kU o)))], 2⟩ : ES)) (fun x => match x with | ⟨(i, q, o), _⟩ => n - i) ⟨((0 : Nat), (0 : Nat), (([] : List Bx) : List Bx)), ⟨yE, CI.zero a b, ⟨rfl, by omega⟩, BsW.nil⟩⟩ [(1, 0)] (P := (kM (kU b)) ∧ (kH m) ∧ (kH 0) ∧ (kH 0) ∧ (kM (kU a)) ∧ (kH n) ∧ (kP (n : Int)) ∧ (kP 0) ∧ (((kU ([] : List Bx)) : List D) = ([] : List D))) zk ⟨rfl, rfl, rfl, rfl, rfl, rfl, rfl, rfl, (by first | rfl | with_reducible assumption)⟩ ?_
   rintro ⟨⟨i, q, o⟩, hinv0⟩
   obtain ⟨hi, hI, hq, hO⟩ : (i ≤ n) ∧ (CI a b i o) ∧ (ka0 o = q ∧ q ≤ 64) ∧ (BsW o) := hinv0
   refine uG (l := [(1, .e (qB b m)), (6, oV 1 0 q 4), (21, .e (qB a n)), (22, uV n), (23, uV i)]) (g := [(1, some (63, .ds (kU o)))]) (nx := 2) rfl rfl rfl ?_
   by_cases hx3 : (((i : Nat) : Int) < ((n : Nat) : Int))
   ·refine kI [.b true] (((i : Int) < (n : Int))) [(1, .e (qB b m)), (6, oV 1 0 q 4), (21, .e (qB a n)), (22, uV n), (23, uV i), (24, bV true)] [(1, some (63, .ds (kU o)))] 2 zo ?_
    refine AW.seq ?_
    refine vO ?_
    refine AW.seq ?_
    refine AW.block ?_
    obtain ⟨hx4, hx5, hx6, hx7, hx8⟩ := BsW.at (qJ : BsW a) (i)
    refine kI [.n i, .ds (yU a i), .no, .no] ((kP (i : Int)) ∧ (i < n) ∧ (ka5 4 (ka3 (i * 4) (kU a)) = (yU a i)) ∧ (((yU a i) : List D).length = 4)) [(1, .e (qB b m)), (6, oV 1 0 q 4), (8, rV 2 0), (21, .e (qB a n)), (22, uV n), (23, uV i)] [(1, some (63, .ds (kU o))), (2, some (63, (aX a i)))] 3 ⟨rfl, zo, (vN bG), rfl⟩ ?_
    refine kS [.no, .no, .no] True [(1, .e (qB b m)), (6, oV 1 0 q 4), (8, rV 2 0), (21, .e (qB a n)), (22, uV n), (23, uV i), (27, .e (qB b m)), (28, uV m), (29, iV 0)] trivial ?_
    refine AW.block ?_
    refine qF 0 hcx (fun (x : {x : Nat × Nat × List Bx // match x with | (j, p, x) => (j ≤ m) ∧ (CJ2 a b i j x) ∧ (ka0 x = p ∧ p ≤ 64) ∧ (BsW x)}) => match x with | ⟨(j, p, x), _⟩ => (⟨[(1, .e (qB b m)), (6, oV 3 0 p 4), (8, rV 2 0), (21, .e (qB a n)), (22, uV n), (23, uV i), (27, .e (qB b m)), (28, uV m), (29, uV j)], [(3, some (63, .ds (kU x))), (2, some (63, (aX a i)))], 4⟩ : ES)) (fun x => match x with | ⟨(j, p, x), _⟩ => m - j) ⟨((0 : Nat), (q : Nat), (o : List Bx)), ⟨yE, hI.in, (by first | assumption | omega), hO⟩⟩ [(3, 1)] (P := (kM (kU b)) ∧ (kH m) ∧ (kH 0) ∧ (kH q) ∧ (kH 0) ∧ (kM (kU a)) ∧ (kH n) ∧ (kP (n : Int)) ∧ (kP (i : Int)) ∧ (kM (kU b)) ∧ (kH m) ∧ (kP (m : Int)) ∧ (kP 0) ∧ (kM (kU o)) ∧ (kM (yU a i))) zk ⟨rfl, rfl, rfl, rfl, rfl, rfl, rfl, rfl, rfl, rfl, rfl, rfl, rfl, rfl, rfl⟩ ?_
    rintro ⟨⟨j, p, x⟩, hinv1⟩
    obtain ⟨hj, hJ, hp, hX⟩ : (j ≤ m) ∧ (CJ2 a b i j x) ∧ (ka0 x = p ∧ p ≤ 64) ∧ (BsW x) := hinv1
    refine uG (l := [(1, .e (qB b m)), (6, oV 3 0 p 4), (8, rV 2 0), (21, .e (qB a n)), (22, uV n), (23, uV i), (27, .e (qB b m)), (28, uV m), (29, uV j)]) (g := [(3, some (63, .ds (kU x))), (2, some (63, (aX a i)))]) (nx := 4) rfl rfl rfl ?_
    by_cases hx9 : (((j : Nat) : Int) < ((m : Nat) : Int))
    ·refine kI [.b true] (((j : Int) < (m : Int))) [(1, .e (qB b m)), (6, oV 3 0 p 4), (8, rV 2 0), (21, .e (qB a n)), (22, uV n), (23, uV i), (27, .e (qB b m)), (28, uV m), (29, uV j), (30, bV true)] [(2, some (63, (aX a i))), (3, some (63, .ds (kU x)))] 4 zo ?_
     refine AW.seq ?_
     refine vO ?_
     refine AW.seq ?_
     refine AW.block ?_
     obtain ⟨hx10, hx11, hx12, hx13, hx14⟩ := BsW.at (qJ : BsW b) (j)
     refine kI [.n j, .ds (yU b j), .no, .no] ((kP (j : Int)) ∧ (j < m) ∧ (ka5 4 (ka3 (j * 4) (kU b)) = (yU b j)) ∧ (((yU b j) : List D).length = 4)) [(1, .e (qB b m)), (6, oV 3 0 p 4), (8, rV 2 0), (10, rV 4 0), (21, .e (qB a n)), (22, uV n), (23, uV i), (27, .e (qB b m)), (28, uV m), (29, uV j)] [(2, some (63, (aX a i))), (3, some (63, .ds (kU x))), (4, some (63, .ds (yU b j)))] 5 ⟨rfl, zo, (vN bG), rfl⟩ ?_
     rcases kb3 (xsB (qE a i) (k9 a i) (qE b j) (k9 b j) (qD a i) (k8 a i) (qD b j) (k8 b j)) with hx15 | hx15
     ·have hx16 : ((ka0 (qS a i b j)) ≤ (ka0 (kW a i))) := cW (kW a i) (kW b j) (ka0 (kW a i))
      have hx17 : ((ka0 (u7 a i b j)) = ((u0 a i b j) * 2)) := u4 _ _
      have hx18 : ((u0 a i b j) ≤ 64) := aG _ _
      have hx19 : ((ka0 (u6 a i b j)) = ((uZ a i b j) * 2)) := u4 _ _
      have hx20 : ((uZ a i b j) ≤ 64) := aG _ _
      have hx21 : (MsW (qS a i b j)) := p7 ((BsW.ms (qJ : BsW a) _)) _ _
      refine kI (.no :: .no :: .call [] (.tup [.agg [iC (qH (kT a i) (kT b j)), .d (dl (u7 a i b j) (u0 a i b j)), .d (D.sl (kK (qS a i b j)) (ka0 (qS a i b j))), .d (dl (u6 a i b j) (uZ a i b j))], .c (.d (D.lit (.bool true)))]) [] 0 [] none :: qN 6 []) (Fun 134 [(oT a i), (oT b j)] (kF []) 0 (.tup [.agg [iC (qH (kT a i) (kT b j)), .d (dl (u7 a i b j) (u0 a i b j)), .d (D.sl (kK (qS a i b j)) (ka0 (qS a i b j))), .d (dl (u6 a i b j) (uZ a i b j))], .c (.d (D.lit (.bool true)))]) (kF []) 0) [(1, .e (qB b m)), (6, oV 3 0 p 4), (8, rV 2 0), (11, rV 5 0), (12, bV true), (21, .e (qB a n)), (22, uV n), (23, uV i), (27, .e (qB b m)), (28, uV m), (29, uV j)] [(2, some (63, (aX a i))), (3, some (63, .ds (kU x))), (5, some (63, (k1z a i b j)))] 6 (by have h0 := (k3q (kT a i) (qE a i) (k9 a i) (kW a i) (ka0 (kW a i)) (qD a i) (k8 a i) (kT b j) (qE b j) (k9 b j) (kW b j) (ka0 (kW b j)) (qD b j) (k8 b j) kN kN rfl kN kN kN (BsW.ms (qJ : BsW a) _) kN kN rfl kN kN kN (BsW.ms (qJ : BsW b) _)); rw [hx15] at h0; exact h0) ?_
      refine AW.seq ?_
      rcases kb3 (gO (qH (kT a i) (kT b j)) (u7 a i b j) (u0 a i b j) (qS a i b j) (u6 a i b j) (uZ a i b j)) with hx22 | hx22
      ·refine kS [.no, .call [] (bV true) [] 0 [] none, .no] (Fun 92 [.agg [iC (qH (kT a i) (kT b j)), .d (dl (u7 a i b j) (u0 a i b j)), .d (D.sl (kK (qS a i b j)) (ka0 (qS a i b j))), .d (dl (u6 a i b j) (uZ a i b j))]] (kF []) 0 (bV true) (kF []) 0) [(1, .e (qB b m)), (6, oV 3 0 p 4), (8, rV 2 0), (11, rV 5 0), (12, bV true), (21, .e (qB a n)), (22, uV n), (23, uV i), (27, .e (qB b m)), (28, uV m), (29, uV j), (41, bV false)] (by have h0 := (lQ (qH (kT a i) (kT b j)) (u7 a i b j) (u0 a i b j) (qS a i b j) (ka0 (qS a i b j)) (u6 a i b j) (uZ a i b j) kN kN rfl kN kN kN (qJ : MsW (qS a i b j))); rw [hx22] at h0; exact h0) ?_
       refine u9 ?_
       refine AW.seq ?_
       by_cases hx23 : (((p : Nat) : Int) = 64)
       ·refine kS (qN 5 [.b true, .no]) (((p : Int) = 64)) [(1, .e (qB b m)), (6, oV 3 0 p 4), (8, rV 2 0), (11, rV 5 0), (21, .e (qB a n)), (22, uV n), (23, uV i), (27, .e (qB b m)), (28, uV m), (29, uV j), (48, bV true)] zo ?_
        refine zt ?_
        refine kI [.no, .no] True [(4, nV), (5, iV 3)] [] 6 trivial ?_
        obtain ⟨hz1, hz2⟩ := v19 hx1 hx2 (k7g (i := i) (j := j) zo zo (by assumption) (by first | exact .inl (by assumption) | exact .inr (by rw [hJ.1]; omega)))
        refine vK (l' := [(4, qK ([] : List D) 0), (5, iV 3)]) (g' := []) (NlS.cons rfl (.e (.c .nil)) (NlS.cons rfl (.same _) NlS.nil)) NlG.nil ?_
        refine AW.ret ?_
        exact EndP.of (.inr rfl) [] (P := (((kU (yS a b)) : List D) = ([] : List D)) ∧ (((ka0 (yS a b)) : Nat) = 0) ∧ (((fD a b) : Int) = 3)) zk ⟨(by first | rfl | exact hz2 | (rw [hz1]; done) | (rw [hz1]; rfl) | omega), (by first | rfl | exact hz2 | (rw [hz1]; done) | (rw [hz1]; rfl) | omega), (by first | rfl | exact hz2 | (rw [hz1]; done) | (rw [hz1]; rfl) | omega)⟩
       ·refine kS (qN 5 [.b false, .no]) (¬ ((p : Int) = 64)) [(1, .e (qB b m)), (6, oV 3 0 p 4), (8, rV 2 0), (11, rV 5 0), (21, .e (qB a n)), (22, uV n), (23, uV i), (27, .e (qB b m)), (28, uV m), (29, uV j), (48, bV false)] zo ?_
        refine u9 ?_
        refine aB [.no, .no, .no, .ap none (p + 1) (kU (x ++ ([(iN a i b j)] : List Bx))), .no] (([iD (qH (kT a i) (kT b j)), dl (u7 a i b j) (u0 a i b j), D.sl (kK (qS a i b j)) (ka0 (qS a i b j)), dl (u6 a i b j) (uZ a i b j)].length = 1 * 4) ∧ (((kU x) : List D).length = p * 4) ∧ ((p + 1) * 80 ≤ 140737488355328) ∧ (p + 1 = (p + 1)) ∧ (((kU x) : List D) ++ [iD (qH (kT a i) (kT b j)), dl (u7 a i b j) (u0 a i b j), D.sl (kK (qS a i b j)) (ka0 (qS a i b j)), dl (u6 a i b j) (uZ a i b j)] = (kU (x ++ ([(iN a i b j)] : List Bx))))) [(1, .e (qB b m)), (6, oV 7 0 (p + 1) 4), (8, rV 2 0), (21, .e (qB a n)), (22, uV n), (23, uV i), (27, .e (qB b m)), (28, uV m), (29, uV j)] [(2, some (63, (aX a i))), (7, some (63, .ds (kU (x ++ ([(iN a i b j)] : List Bx)))))] 8 ⟨vP, vP, zo, zo, (tS x (qH (kT a i) (kT b j)) (u7 a i b j) (u0 a i b j) (qS a i b j) (ka0 (qS a i b j)) (u6 a i b j) (uZ a i b j) (by first | rfl | omega))⟩ ?_
        refine yK [.w, .no] (yF ((j : Int) + 1)) [(1, .e (qB b m)), (6, oV 7 0 (p + 1) 4), (8, rV 2 0), (21, .e (qB a n)), (22, uV n), (23, uV i), (27, .e (qB b m)), (28, uV m), (29, iV (↑j + 1))] ⟨by omega, by omega⟩ ?_
        exact Rd.of ⟨(((j + 1) : Nat), ((p + 1) : Nat), ((x ++ ([(iN a i b j)] : List Bx)) : List Bx)), ⟨yE, (by first | exact hJ.n (by assumption) | exact hJ.y (by assumption) (by assumption) zo), mY, (by first | assumption | exact hX.app (BsW.one (k3c hW _ _)))⟩⟩ [(3, 7)] (P := (kM (kU b)) ∧ (kH m) ∧ (kH 0) ∧ (kH (p + 1)) ∧ (kH 0) ∧ (kM (kU a)) ∧ (kH n) ∧ (kP (n : Int)) ∧ (kP (i : Int)) ∧ (kM (kU b)) ∧ (kH m) ∧ (kP (m : Int)) ∧ (cU j) ∧ (kM (kU (x ++ ([(iN a i b j)] : List Bx)))) ∧ (kM (yU a i))) zk ⟨rfl, rfl, rfl, rfl, rfl, rfl, rfl, rfl, rfl, rfl, rfl, rfl, bF, rfl, rfl⟩ (show m - (j + 1) < m - j from vW)
      ·refine kS [.no, .call [] (bV false) [] 0 [] none, .no] (Fun 92 [.agg [iC (qH (kT a i) (kT b j)), .d (dl (u7 a i b j) (u0 a i b j)), .d (D.sl (kK (qS a i b j)) (ka0 (qS a i b j))), .d (dl (u6 a i b j) (uZ a i b j))]] (kF []) 0 (bV false) (kF []) 0) [(1, .e (qB b m)), (6, oV 3 0 p 4), (8, rV 2 0), (11, rV 5 0), (12, bV true), (21, .e (qB a n)), (22, uV n), (23, uV i), (27, .e (qB b m)), (28, uV m), (29, uV j), (41, bV true)] (by have h0 := (lQ (qH (kT a i) (kT b j)) (u7 a i b j) (u0 a i b j) (qS a i b j) (ka0 (qS a i b j)) (u6 a i b j) (uZ a i b j) kN kN rfl kN kN kN (qJ : MsW (qS a i b j))); rw [hx22] at h0; exact h0) ?_
       refine zt ?_
       refine AW.exit ?_
       refine aB [.w, .no] (yF ((j : Int) + 1)) [(1, .e (qB b m)), (6, oV 3 0 p 4), (8, rV 2 0), (21, .e (qB a n)), (22, uV n), (23, uV i), (27, .e (qB b m)), (28, uV m), (29, iV (↑j + 1))] [(2, some (63, (aX a i))), (3, some (63, .ds (kU x)))] 6 ⟨by omega, by omega⟩ ?_
       exact Rd.of ⟨(((j + 1) : Nat), (p : Nat), (x : List Bx)), ⟨yE, (by first | exact hJ.n (by assumption) | exact hJ.y (by assumption) (by assumption) zo), mY, (by first | assumption | exact hX.app (BsW.one (k3c hW _ _)))⟩⟩ [] (P := (kM (kU b)) ∧ (kH m) ∧ (kH 0) ∧ (kH p) ∧ (kH 0) ∧ (kM (kU a)) ∧ (kH n) ∧ (kP (n : Int)) ∧ (kP (i : Int)) ∧ (kM (kU b)) ∧ (kH m) ∧ (kP (m : Int)) ∧ (cU j) ∧ (kM (kU x)) ∧ (kM (yU a i))) zk ⟨rfl, rfl, rfl, rfl, rfl, rfl, rfl, rfl, rfl, rfl, rfl, rfl, bF, rfl, rfl⟩ (show m - (j + 1) < m - j from vW)
     ·have hx24 : ((ka0 (qS a i b j)) ≤ (ka0 (kW a i))) := cW (kW a i) (kW b j) (ka0 (kW a i))
      have hx25 : ((ka0 (u7 a i b j)) = ((u0 a i b j) * 2)) := u4 _ _
      have hx26 : ((u0 a i b j) ≤ 64) := aG _ _
      have hx27 : ((ka0 (u6 a i b j)) = ((uZ a i b j) * 2)) := u4 _ _
      have hx28 : ((uZ a i b j) ≤ 64) := aG _ _
      have hx29 : (MsW (qS a i b j)) := p7 ((BsW.ms (qJ : BsW a) _)) _ _
      refine kI (.no :: .no :: .call [] (.tup [.agg [iC (qH (kT a i) (kT b j)), .d (dl (u7 a i b j) (u0 a i b j)), .d (D.sl (kK (qS a i b j)) (ka0 (qS a i b j))), .d (dl (u6 a i b j) (uZ a i b j))], .c (.d (D.lit (.bool false)))]) [] 0 [] none :: qN 6 []) (Fun 134 [(oT a i), (oT b j)] (kF []) 0 (.tup [.agg [iC (qH (kT a i) (kT b j)), .d (dl (u7 a i b j) (u0 a i b j)), .d (D.sl (kK (qS a i b j)) (ka0 (qS a i b j))), .d (dl (u6 a i b j) (uZ a i b j))], .c (.d (D.lit (.bool false)))]) (kF []) 0) [(1, .e (qB b m)), (6, oV 3 0 p 4), (8, rV 2 0), (11, rV 5 0), (12, bV false), (21, .e (qB a n)), (22, uV n), (23, uV i), (27, .e (qB b m)), (28, uV m), (29, uV j)] [(2, some (63, (aX a i))), (3, some (63, .ds (kU x))), (5, some (63, (k1z a i b j)))] 6 (by have h0 := (k3q (kT a i) (qE a i) (k9 a i) (kW a i) (ka0 (kW a i)) (qD a i) (k8 a i) (kT b j) (qE b j) (k9 b j) (kW b j) (ka0 (kW b j)) (qD b j) (k8 b j) kN kN rfl kN kN kN (BsW.ms (qJ : BsW a) _) kN kN rfl kN kN kN (BsW.ms (qJ : BsW b) _)); rw [hx15] at h0; exact h0) ?_
      refine AW.seq ?_
      rcases kb3 (gO (qH (kT a i) (kT b j)) (u7 a i b j) (u0 a i b j) (qS a i b j) (u6 a i b j) (uZ a i b j)) with hx30 | hx30
      ·refine kS [.no, .call [] (bV true) [] 0 [] none, .no] (Fun 92 [.agg [iC (qH (kT a i) (kT b j)), .d (dl (u7 a i b j) (u0 a i b j)), .d (D.sl (kK (qS a i b j)) (ka0 (qS a i b j))), .d (dl (u6 a i b j) (uZ a i b j))]] (kF []) 0 (bV true) (kF []) 0) [(1, .e (qB b m)), (6, oV 3 0 p 4), (8, rV 2 0), (11, rV 5 0), (12, bV false), (21, .e (qB a n)), (22, uV n), (23, uV i), (27, .e (qB b m)), (28, uV m), (29, uV j), (41, bV false)] (by have h0 := (lQ (qH (kT a i) (kT b j)) (u7 a i b j) (u0 a i b j) (qS a i b j) (ka0 (qS a i b j)) (u6 a i b j) (uZ a i b j) kN kN rfl kN kN kN (qJ : MsW (qS a i b j))); rw [hx30] at h0; exact h0) ?_
       refine u9 ?_
       refine AW.seq ?_
       refine kS (qN 4 []) True [(1, .e (qB b m)), (6, oV 3 0 p 4), (8, rV 2 0), (11, rV 5 0), (21, .e (qB a n)), (22, uV n), (23, uV i), (27, .e (qB b m)), (28, uV m), (29, uV j), (48, bV true)] trivial ?_
       refine zt ?_
       refine kI [.no, .no] True [(4, nV), (5, iV 3)] [] 6 trivial ?_
       obtain ⟨hz1, hz2⟩ := v19 hx1 hx2 (k7g (i := i) (j := j) zo zo (by assumption) (by first | exact .inl (by assumption) | exact .inr (by rw [hJ.1]; omega)))
       refine vK (l' := [(4, qK ([] : List D) 0), (5, iV 3)]) (g' := []) (NlS.cons rfl (.e (.c .nil)) (NlS.cons rfl (.same _) NlS.nil)) NlG.nil ?_
       refine AW.ret ?_
       exact EndP.of (.inr rfl) [] (P := (((kU (yS a b)) : List D) = ([] : List D)) ∧ (((ka0 (yS a b)) : Nat) = 0) ∧ (((fD a b) : Int) = 3)) zk ⟨(by first | rfl | exact hz2 | (rw [hz1]; done) | (rw [hz1]; rfl) | omega), (by first | rfl | exact hz2 | (rw [hz1]; done) | (rw [hz1]; rfl) | omega), (by first | rfl | exact hz2 | (rw [hz1]; done) | (rw [hz1]; rfl) | omega)⟩
      ·refine kS [.no, .call [] (bV false) [] 0 [] none, .no] (Fun 92 [.agg [iC (qH (kT a i) (kT b j)), .d (dl (u7 a i b j) (u0 a i b j)), .d (D.sl (kK (qS a i b j)) (ka0 (qS a i b j))), .d (dl (u6 a i b j) (uZ a i b j))]] (kF []) 0 (bV false) (kF []) 0) [(1, .e (qB b m)), (6, oV 3 0 p 4), (8, rV 2 0), (11, rV 5 0), (12, bV false), (21, .e (qB a n)), (22, uV n), (23, uV i), (27, .e (qB b m)), (28, uV m), (29, uV j), (41, bV true)] (by have h0 := (lQ (qH (kT a i) (kT b j)) (u7 a i b j) (u0 a i b j) (qS a i b j) (ka0 (qS a i b j)) (u6 a i b j) (uZ a i b j) kN kN rfl kN kN kN (qJ : MsW (qS a i b j))); rw [hx30] at h0; exact h0) ?_
       refine zt ?_
       refine AW.exit ?_
       refine aB [.w, .no] (yF ((j : Int) + 1)) [(1, .e (qB b m)), (6, oV 3 0 p 4), (8, rV 2 0), (21, .e (qB a n)), (22, uV n), (23, uV i), (27, .e (qB b m)), (28, uV m), (29, iV (↑j + 1))] [(2, some (63, (aX a i))), (3, some (63, .ds (kU x)))] 6 ⟨by omega, by omega⟩ ?_
       exact Rd.of ⟨(((j + 1) : Nat), (p : Nat), (x : List Bx)), ⟨yE, (by first | exact hJ.n (by assumption) | exact hJ.y (by assumption) (by assumption) zo), mY, (by first | assumption | exact hX.app (BsW.one (k3c hW _ _)))⟩⟩ [] (P := (kM (kU b)) ∧ (kH m) ∧ (kH 0) ∧ (kH p) ∧ (kH 0) ∧ (kM (kU a)) ∧ (kH n) ∧ (kP (n : Int)) ∧ (kP (i : Int)) ∧ (kM (kU b)) ∧ (kH m) ∧ (kP (m : Int)) ∧ (cU j) ∧ (kM (kU x)) ∧ (kM (yU a i))) zk ⟨rfl, rfl, rfl, rfl, rfl, rfl, rfl, rfl, rfl, rfl, rfl, rfl, bF, rfl, rfl⟩ (show m - (j + 1) < m - j from vW)
    ·refine kI [.b false] (¬ ((j : Int) < (m : Int))) [(1, .e (qB b m)), (6, oV 3 0 p 4), (8, rV 2 0), (21, .e (qB a n)), (22, uV n), (23, uV i), (27, .e (qB b m)), (28, uV m), (29, uV j), (30, bV false)] [(2, some (63, (aX a i))), (3, some (63, .ds (kU x)))] 4 zo ?_
     refine AW.seq ?_
     refine zf ?_
     refine AW.exit ?_
     refine aB [.w, .no] (yF ((i : Int) + 1)) [(1, .e (qB b m)), (6, oV 3 0 p 4), (21, .e (qB a n)), (22, uV n), (23, iV (↑i + 1))] [(3, some (63, .ds (kU x)))] 4 ⟨by omega, by omega⟩ ?_
     exact Rd.of ⟨(((i + 1) : Nat), (p : Nat), (x : List Bx)), ⟨yE, (hJ.out zo), (by first | assumption | omega), (by assumption)⟩⟩ [(1, 3)] (P := (kM (kU b)) ∧ (kH m) ∧ (kH 0) ∧ (kH p) ∧ (kM (kU a)) ∧ (kH n) ∧ (kP (n : Int)) ∧ (cU i) ∧ (kM (kU x))) zk ⟨rfl, rfl, rfl, rfl, rfl, rfl, rfl, bF, rfl⟩ (show n - (i + 1) < n - i from vW)
   ·refine kI [.b false] (¬ ((i : Int) < (n : Int))) [(1, .e (qB b m)), (6, oV 1 0 q 4), (21, .e (qB a n)), (22, uV n), (23, uV i), (24, bV false)] [(1, some (63, .ds (kU o)))] 2 zo ?_
    refine AW.seq ?_
    refine zf ?_
    refine AW.exit ?_
    refine AW.freeze 1 (l' := [(1, .e (qB b m)), (6, .e (qB o q)), (21, .e (qB a n)), (22, uV n), (23, uV i), (24, bV false)]) (g' := []) rfl (FzS.cons rfl (.same _) (FzS.cons rfl (.e (.c (@FzC.own 1 ((kU o) : List D) 0 q 4 true ((kU o) : List D) rM vP))) (FzS.cons rfl (.same _) (FzS.cons rfl (.same _) (FzS.cons rfl (.same _) (FzS.cons rfl (.same _) FzS.nil)))))) FzG.nil ?_
    have hx31 : ((ka0 (bE o)) ≤ q) := (ke0 (nN o) (Nat.le_of_eq (zo)))
    have hx32 : (((0 : Int) ≤ (jO o)) ∧ ((jO o) ≤ 1)) := iS o
    refine kI (.no :: .call [] (.tup [.c (.d (D.sl (kU (bE o)) (ka0 (bE o)))), iE (jO o)]) [] 0 [] none :: qN 4 []) _ [(4, .e (y5 (bE o))), (5, iV (jO o))] [] 2 (u0t o q zo zo (qJ : BsW o)) ?_
    obtain ⟨hz1, hz2⟩ := k7o hx1 hx2 hI zo
    refine AW.ret ?_
    exact EndP.of (.inr rfl) [] (P := (((kU (yS a b)) : List D) = (kU (bE o))) ∧ (((ka0 (yS a b)) : Nat) = (ka0 (bE o))) ∧ (((fD a b) : Int) = (jO o))) zk ⟨(by first | rfl | exact hz2 | (rw [hz1]; done) | (rw [hz1]; rfl) | omega), (by first | rfl | exact hz2 | (rw [hz1]; done) | (rw [hz1]; rfl) | omega), (by first | rfl | exact hz2 | (rw [hz1]; done) | (rw [hz1]; rfl) | omega)⟩
  ·refine kS [.no, .call [] (bV true) [] 0 [] none, .no, .no, .no, .call [] (bV false) [] 0 [] none, .no, .no] ((Fun 60 [.c (.d (D.sl (kU a) n))] (kF []) 0 (bV true) (kF []) 0) ∧ (Fun 60 [.c (.d (D.sl (kU b) m))] (kF []) 0 (bV false) (kF []) 0)) [(0, .e (qB a n)), (1, .e (qB b m)), (20, bV true)] ⟨(by have h0 := (v9 a n zo zo (qJ : BsW a)); rw [hx1] at h0; exact h0), (by have h0 := (v9 b m zo zo (qJ : BsW b)); rw [hx2] at h0; exact h0)⟩ ?_
   refine zt ?_
   refine kS [.no, .no] True [(4, nV), (5, iV 1)] trivial ?_
   obtain ⟨hz1, hz2⟩ := v4g hx2
   refine vK (l' := [(4, qK ([] : List D) 0), (5, iV 1)]) (g' := []) (NlS.cons rfl (.e (.c .nil)) (NlS.cons rfl (.same _) NlS.nil)) NlG.nil ?_
   refine AW.ret ?_
   exact EndP.of (.inr rfl) [] (P := (((kU (yS a b)) : List D) = ([] : List D)) ∧ (((ka0 (yS a b)) : Nat) = 0) ∧ (((fD a b) : Int) = 1)) zk ⟨(by first | rfl | exact hz2 | (rw [hz1]; done) | (rw [hz1]; rfl) | omega), (by first | rfl | exact hz2 | (rw [hz1]; done) | (rw [hz1]; rfl) | omega), (by first | rfl | exact hz2 | (rw [hz1]; done) | (rw [hz1]; rfl) | omega)⟩
 ·refine kS [.no, .call [] (bV false) [] 0 [] none, .no, .no, .no] (Fun 60 [.c (.d (D.sl (kU a) n))] (kF []) 0 (bV false) (kF []) 0) [(0, .e (qB a n)), (1, .e (qB b m)), (20, bV true)] (by have h0 := (v9 a n zo zo (qJ : BsW a)); rw [hx1] at h0; exact h0) ?_
  refine zt ?_
  refine kS [.no, .no] True [(4, nV), (5, iV 1)] trivial ?_
  obtain ⟨hz1, hz2⟩ := v4h hx1
  refine vK (l' := [(4, qK ([] : List D) 0), (5, iV 1)]) (g' := []) (NlS.cons rfl (.e (.c .nil)) (NlS.cons rfl (.same _) NlS.nil)) NlG.nil ?_
  refine AW.ret ?_
  exact EndP.of (.inr rfl) [] (P := (((kU (yS a b)) : List D) = ([] : List D)) ∧ (((ka0 (yS a b)) : Nat) = 0) ∧ (((fD a b) : Int) = 1)) zk ⟨(by first | rfl | exact hz2 | (rw [hz1]; done) | (rw [hz1]; rfl) | omega), (by first | rfl | exact hz2 | (rw [hz1]; done) | (rw [hz1]; rfl) | omega), (by first | rfl | exact hz2 | (rw [hz1]; done) | (rw [hz1]; rfl) | omega)⟩
end Go.Proofs.YtbicifcgghmhaaaGreat
