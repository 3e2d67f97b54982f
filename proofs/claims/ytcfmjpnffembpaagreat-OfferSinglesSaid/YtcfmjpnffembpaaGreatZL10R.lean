/- Reduced lists, intersections. No statement is proved here. -/
import Derived.Test.YtcfmjpnffembpaaGreatZL10Q
import Derived.Test.YtcfmjpnffembpaaGreatZL10G
namespace Go.Proofs.YtcfmjpnffembpaaGreat
open Go.ChangeShapes Go.WideShapes Go.ChangeAt Go.RowKit
set_option linter.unusedVariables false
set_option linter.unusedSimpArgs false
/-! chapter 10: boxes within boxes; reduced lists; intersections -/
set_option maxHeartbeats 4000000
set_option maxRecDepth 100000
def anW (a b : Int) : Int := bitsI .andNot .i64 a b
def nhB (ms : List (List Int)) (m : List Int) : Bool := !(hmB ms m)
theorem nh_t {ms : List (List Int)} {m : List Int} (h : hmB ms m = false) : nhB ms m = true := by unfold nhB; rw [h]; rfl
theorem nh_f {ms : List (List Int)} {m : List Int} (h : hmB ms m = true) : nhB ms m = false := by unfold nhB; rw [h]; rfl
def stK (a b : List (List Int)) : Nat → Int := fiK fun j => nhB b (List.getD a j [])
theorem stK_m {a b : List (List Int)} {k : Nat} (h : stK a b k = -1) (h2 : nhB b (List.getD a k []) = false) : stK a b (k + 1) = -1 := fi_miss h h2
theorem stK_h {a b : List (List Int)} {k : Nat} (h : stK a b k = -1) (h2 : nhB b (List.getD a k []) = true) {n : Nat} (hn : k < n) : stK a b n = (k : Int) := fi_hit h h2 n hn
def sgB (a b : List (List Int)) : Bool := decide (∃ m ∈ a, m ∉ b)
theorem sg_t {a b : List (List Int)} {n : Nat} (hn : a.length = n) (h : 0 ≤ stK a b n) : sgB a b = true := by
 obtain ⟨k, hk, h1⟩ := fi_in h
 have hk : k < a.length := by omega
 refine decide_eq_true ⟨a[k], List.getElem_mem hk, fun e => ?_⟩
 have e2 : List.getD a k [] = a[k] := by rw [List.getD_eq_getElem?_getD, List.getElem?_eq_getElem hk]; rfl
 have h1 : nhB b (List.getD a k []) = true := h1
 rw [e2, nh_f (decide_eq_true e)] at h1; cases h1
theorem sg_f {a b : List (List Int)} {n : Nat} (hn : a.length = n) (h : ¬ 0 ≤ stK a b n) : sgB a b = false := by
 refine decide_eq_false fun ⟨m, hm, e⟩ => ?_
 obtain ⟨k, hk, rfl⟩ := List.mem_iff_getElem.1 hm
 have h1 := fi_out h k (by omega)
 have e2 : List.getD a k [] = a[k] := by rw [List.getD_eq_getElem?_getD, List.getElem?_eq_getElem hk]; rfl
 have h1 : nhB b (List.getD a k []) = false := h1
 rw [e2, nh_t (decide_eq_false e)] at h1; cases h1
def niB (k : Int) (r : List Int) (rn : Nat) (m : List (List Int)) (s : List Int) (sn : Nat) (k2 : Int) (r2 : List Int) (rn2 : Nat) (m2 : List (List Int)) (s2 : List Int) (sn2 : Nat) : Bool := decide (anW k k2 = 0) && (inB (spS r rn) (spS r2 rn2) && (!(sgB m m2) && inB (spS s sn) (spS s2 sn2)))
theorem ni_t {k : Int} {r : List Int} {rn : Nat} {m : List (List Int)} {s : List Int} {sn : Nat} {k2 : Int} {r2 : List Int} {rn2 : Nat} {m2 : List (List Int)} {s2 : List Int} {sn2 : Nat} (h1 : anW k k2 = 0) (h2 : inB (spS r rn) (spS r2 rn2) = true) (h3 : sgB m m2 = false) (h4 : inB (spS s sn) (spS s2 sn2) = true) : niB k r rn m s sn k2 r2 rn2 m2 s2 sn2 = true := by
 unfold niB; rw [decide_eq_true h1, h2, h3, h4]; rfl
theorem ni_k {k : Int} {r : List Int} {rn : Nat} {m : List (List Int)} {s : List Int} {sn : Nat} {k2 : Int} {r2 : List Int} {rn2 : Nat} {m2 : List (List Int)} {s2 : List Int} {sn2 : Nat} (h1 : ¬ anW k k2 = 0) : niB k r rn m s sn k2 r2 rn2 m2 s2 sn2 = false := by
 unfold niB; rw [decide_eq_false h1]; rfl
theorem ni_r {k : Int} {r : List Int} {rn : Nat} {m : List (List Int)} {s : List Int} {sn : Nat} {k2 : Int} {r2 : List Int} {rn2 : Nat} {m2 : List (List Int)} {s2 : List Int} {sn2 : Nat} (h2 : inB (spS r rn) (spS r2 rn2) = false) : niB k r rn m s sn k2 r2 rn2 m2 s2 sn2 = false := by
 unfold niB; rw [h2, Bool.false_and, Bool.and_false]
theorem ni_m {k : Int} {r : List Int} {rn : Nat} {m : List (List Int)} {s : List Int} {sn : Nat} {k2 : Int} {r2 : List Int} {rn2 : Nat} {m2 : List (List Int)} {s2 : List Int} {sn2 : Nat} (h3 : sgB m m2 = true) : niB k r rn m s sn k2 r2 rn2 m2 s2 sn2 = false := by
 unfold niB; rw [h3, Bool.not_true, Bool.false_and, Bool.and_false, Bool.and_false]
theorem ni_s {k : Int} {r : List Int} {rn : Nat} {m : List (List Int)} {s : List Int} {sn : Nat} {k2 : Int} {r2 : List Int} {rn2 : Nat} {m2 : List (List Int)} {s2 : List Int} {sn2 : Nat} (h4 : inB (spS s sn) (spS s2 sn2) = false) : niB k r rn m s sn k2 r2 rn2 m2 s2 sn2 = false := by
 unfold niB; rw [h4, Bool.and_false, Bool.and_false, Bool.and_false]
def niE (xs : List Bx) (i : Nat) (ys : List Bx) (j : Nat) : Bool := niB (qbK xs i) (qbR xs i) (qbN xs i) (qbM xs i) (qbS xs i) (qbT xs i) (qbK ys j) (qbR ys j) (qbN ys j) (qbM ys j) (qbS ys j) (qbT ys j)
def goE (xs : List Bx) (i j : Nat) : Bool := decide (j ≠ i) && (niE xs i xs j && (decide (j < i) || !(niE xs j xs i)))
def goB (xs : List Bx) (i : Nat) : Bool := decide (∃ j, j < xs.length ∧ goE xs i j = true)
theorem go_t {xs : List Bx} {i j : Nat} (hj : j < xs.length) (h : goE xs i j = true) : goB xs i = true := decide_eq_true ⟨j, hj, h⟩
theorem go_f {xs : List Bx} {i : Nat} (h : ∀ j, j < xs.length → goE xs i j = false) : goB xs i = false := decide_eq_false fun ⟨j, hj, e⟩ => by
 have := h j hj; rw [this] at e; cases e
theorem ge_l {xs : List Bx} {i j : Nat} (h0 : ¬ j = i) (h1 : niE xs i xs j = true) (h2 : j < i) : goE xs i j = true := by
 unfold goE; rw [decide_eq_true h0, h1, decide_eq_true h2]; rfl
theorem ge_n {xs : List Bx} {i j : Nat} (h0 : ¬ j = i) (h1 : niE xs i xs j = true) (h2 : niE xs j xs i = false) : goE xs i j = true := by
 unfold goE; rw [decide_eq_true h0, h1, h2, Bool.not_false, Bool.or_true]; rfl
theorem ge_s {xs : List Bx} {i j : Nat} (h0 : j = i) : goE xs i j = false := by
 unfold goE; rw [decide_eq_false (fun e => e h0)]; rfl
theorem ge_i {xs : List Bx} {i j : Nat} (h1 : niE xs i xs j = false) : goE xs i j = false := by
 unfold goE; rw [h1, Bool.false_and, Bool.and_false]
theorem ge_b {xs : List Bx} {i j : Nat} (h1 : niE xs j xs i = true) (h2 : ¬ j < i) : goE xs i j = false := by
 unfold goE; rw [h1, decide_eq_false h2, Bool.not_true, Bool.or_false, Bool.and_false, Bool.and_false]
def bxP (xs : List Bx) (i : Nat) : Bx := mkBx (qbK xs i) (qbR xs i) (qbN xs i) (qbM xs i) (qbS xs i) (qbT xs i)
def rdS (xs : List Bx) : Nat → List Bx
 | 0 => []
 | i + 1 => if goB xs i = true then rdS xs i else rdS xs i ++ [bxP xs i]
theorem rd_y {xs o : List Bx} {i : Nat} (h : rdS xs i = o) (h1 : goB xs i = true) : rdS xs (i + 1) = o := by subst h; exact if_pos h1
theorem rd_n {xs o : List Bx} {i : Nat} (h : rdS xs i = o) (h1 : goB xs i = false) : rdS xs (i + 1) = o ++ [mkBx (qbK xs i) (qbR xs i) (qbN xs i) (qbM xs i) (qbS xs i) (qbT xs i)] := by subst h; exact if_neg (by rw [h1]; decide)
def rdR (xs : List Bx) : List Bx := if vbB xs = true then rdS xs xs.length else []
def rdE (xs : List Bx) : Int := if vbB xs = true then 0 else 1
theorem rdR_y {xs : List Bx} (h : vbB xs = true) : rdR xs = rdS xs xs.length ∧ rdE xs = 0 := ⟨if_pos h, if_pos h⟩
theorem rdR_n {xs : List Bx} (h : vbB xs = false) : rdR xs = [] ∧ rdE xs = 1 := ⟨if_neg (by rw [h]; decide), if_neg (by rw [h]; decide)⟩
theorem rdS_W {xs : List Bx} (h : BsW xs) : ∀ i, BsW (rdS xs i)
 | 0 => BsW.nil
 | i + 1 => by
  rw [rdS]; split
  ·exact rdS_W h i
  ·exact (rdS_W h i).app (BsW.one (h.box i))
theorem rdS_le (xs : List Bx) : ∀ i, List.length (rdS xs i) ≤ i
 | 0 => Nat.le_refl _
 | i + 1 => by
  have := rdS_le xs i
  rw [rdS]; split
  ·omega
  ·rw [List.length_append, List.length_singleton]; omega
theorem rdR_W {xs : List Bx} (h : BsW xs) : BsW (rdR xs) := by unfold rdR; split; exact rdS_W h _; exact BsW.nil
theorem rdR_le (xs : List Bx) : List.length (rdR xs) ≤ List.length xs := by unfold rdR; split; exact rdS_le xs _; exact Nat.zero_le _
theorem rdE_rng (xs : List Bx) : 0 ≤ rdE xs ∧ rdE xs ≤ 1 := by unfold rdE; split <;> decide
def avS (l : List Int) (v : Int) : Nat → List Int
 | 0 => []
 | k + 1 => if v < List.getD l (k * 2 + 1) 0 then avS l v k ++ [max (List.getD l (k * 2) 0) (v + 1), List.getD l (k * 2 + 1) 0] else avS l v k
def avN (l : List Int) (v : Int) (k : Nat) : Nat := (avS l v k).length / 2
theorem av_y {l o : List Int} {v x y : Int} {k : Nat} (h : avS l v k = o) (h1 : v < List.getD l (k * 2 + 1) 0) (hx : x = max (List.getD l (k * 2) 0) (v + 1)) (hy : y = List.getD l (k * 2 + 1) 0) : avS l v (k + 1) = o ++ [x, y] := by subst h; rw [hx, hy]; exact if_pos h1
theorem av_n {l o : List Int} {v : Int} {k : Nat} (h : avS l v k = o) (h1 : ¬ v < List.getD l (k * 2 + 1) 0) : avS l v (k + 1) = o := by subst h; exact if_neg h1
theorem av_len (l : List Int) (v : Int) (k : Nat) : List.length (avS l v k) = avN l v k * 2 ∧ avN l v k ≤ k := by
 have h : ∃ j, j ≤ k ∧ List.length (avS l v k) = j * 2 := by
  induction k with
  | zero => exact ⟨0, Nat.le_refl _, rfl⟩
  | succ k ih =>
   obtain ⟨j, hj, e⟩ := ih
   rw [avS]; split
   ·exact ⟨j + 1, by omega, by rw [List.length_append, e]; simp only [List.length_cons, List.length_nil]; omega⟩
   ·exact ⟨j, by omega, e⟩
 obtain ⟨j, hj, e⟩ := h
 unfold avN; omega
def meB (r : List Int) (rn : Nat) (r2 : List Int) (rn2 : Nat) : Bool := decide (isN (spS r rn) (spS r2 rn2) < 64) || decide (isN (spS (avS r (List.getD (isS (spS r rn) (spS r2 rn2)) 127 0) rn) (avN r (List.getD (isS (spS r rn) (spS r2 rn2)) 127 0) rn)) (spS r2 rn2) = 0)
theorem me_l {r : List Int} {rn : Nat} {r2 : List Int} {rn2 : Nat} (h : isN (spS r rn) (spS r2 rn2) < 64) : meB r rn r2 rn2 = true := by unfold meB; rw [decide_eq_true h]; rfl
theorem me_t {r : List Int} {rn : Nat} {r2 : List Int} {rn2 : Nat} (h : isN (spS (avS r (List.getD (isS (spS r rn) (spS r2 rn2)) 127 0) rn) (avN r (List.getD (isS (spS r rn) (spS r2 rn2)) 127 0) rn)) (spS r2 rn2) = 0) : meB r rn r2 rn2 = true := by unfold meB; rw [decide_eq_true h, Bool.or_true]
theorem me_f {r : List Int} {rn : Nat} {r2 : List Int} {rn2 : Nat} (h1 : ¬ isN (spS r rn) (spS r2 rn2) < 64) (h : ¬ isN (spS (avS r (List.getD (isS (spS r rn) (spS r2 rn2)) 127 0) rn) (avN r (List.getD (isS (spS r rn) (spS r2 rn2)) 127 0) rn)) (spS r2 rn2) = 0) : meB r rn r2 rn2 = false := by unfold meB; rw [decide_eq_false h, decide_eq_false h1]; rfl
theorem is_va {a b : List Int} {n m : Nat} (ha : a.length = n * 2) (hb : b.length = m * 2) : okP (prs (isS (spS a n) (spS b m))) := by
 unfold isS; rw [prs_fl]
 have h := it_ok (sp_ok ha) (sp_ok hb)
 have e := List.take_append_drop 64 (itP (prs (spS a n)) (prs (spS b m)))
 generalize List.take 64 (itP (prs (spS a n)) (prs (spS b m))) = t at *
 generalize List.drop 64 (itP (prs (spS a n)) (prs (spS b m))) = d at *
 rw [← e] at h
 clear e
 induction t with
 | nil => trivial
 | cons p t ih => exact ⟨h.1, fun q hq => h.2.1 q (List.mem_append_left _ hq), ih h.2.2⟩
theorem is_63 {a b : List Int} {n m : Nat} (ha : a.length = n * 2) (hb : b.length = m * 2) (h : 64 ≤ isN (spS a n) (spS b m)) : 0 ≤ List.getD (isS (spS a n) (spS b m)) 127 0 ∧ List.getD (isS (spS a n) (spS b m)) 127 0 ≤ 2147483647 := by
 have h1 := okP_v (is_va ha hb) _ ((mem_prs (is_len (spS a n) (spS b m))).2 ⟨63, by omega, rfl⟩)
 unfold spV at h1
 have h1 : 0 ≤ List.getD (isS (spS a n) (spS b m)) 126 0 ∧ List.getD (isS (spS a n) (spS b m)) 126 0 ≤ List.getD (isS (spS a n) (spS b m)) 127 0 ∧ List.getD (isS (spS a n) (spS b m)) 127 0 ≤ 2147483647 := h1
 omega
def xsB (r : List Int) (rn : Nat) (r2 : List Int) (rn2 : Nat) (s : List Int) (sn : Nat) (s2 : List Int) (sn2 : Nat) : Bool := meB r rn r2 rn2 && meB s sn s2 sn2
theorem xs_t {r : List Int} {rn : Nat} {r2 : List Int} {rn2 : Nat} {s : List Int} {sn : Nat} {s2 : List Int} {sn2 : Nat} (h1 : meB r rn r2 rn2 = true) (h2 : meB s sn s2 sn2 = true) : xsB r rn r2 rn2 s sn s2 sn2 = true := by unfold xsB; rw [h1, h2]; rfl
theorem xs_a {r : List Int} {rn : Nat} {r2 : List Int} {rn2 : Nat} {s : List Int} {sn : Nat} {s2 : List Int} {sn2 : Nat} (h1 : meB r rn r2 rn2 = false) : xsB r rn r2 rn2 s sn s2 sn2 = false := by unfold xsB; rw [h1]; rfl
theorem xs_b {r : List Int} {rn : Nat} {r2 : List Int} {rn2 : Nat} {s : List Int} {sn : Nat} {s2 : List Int} {sn2 : Nat} (h2 : meB s sn s2 sn2 = false) : xsB r rn r2 rn2 s sn s2 sn2 = false := by unfold xsB; rw [h2, Bool.and_false]
/-! the boxes made of each box of one list with each box of another one -/
def crB (xs ys : List Bx) (i j : Nat) : Bx := mkBx (adV (qbK xs i) (qbK ys j)) (isS (spS (qbR xs i) (qbN xs i)) (spS (qbR ys j) (qbN ys j))) (isN (spS (qbR xs i) (qbN xs i)) (spS (qbR ys j) (qbN ys j))) (cmS (qbM xs i) (qbM ys j) (List.length (qbM xs i))) (isS (spS (qbS xs i) (qbT xs i)) (spS (qbS ys j) (qbT ys j))) (isN (spS (qbS xs i) (qbT xs i)) (spS (qbS ys j) (qbT ys j)))
def crV (xs ys : List Bx) (i j : Nat) : Bool := bxB (adV (qbK xs i) (qbK ys j)) (isS (spS (qbR xs i) (qbN xs i)) (spS (qbR ys j) (qbN ys j))) (isN (spS (qbR xs i) (qbN xs i)) (spS (qbR ys j) (qbN ys j))) (cmS (qbM xs i) (qbM ys j) (List.length (qbM xs i))) (isS (spS (qbS xs i) (qbT xs i)) (spS (qbS ys j) (qbT ys j))) (isN (spS (qbS xs i) (qbT xs i)) (spS (qbS ys j) (qbT ys j)))
def crS (xs ys : List Bx) (i j : Nat) : Bool := xsB (qbR xs i) (qbN xs i) (qbR ys j) (qbN ys j) (qbS xs i) (qbT xs i) (qbS ys j) (qbT ys j)
theorem crB_W {xs ys : List Bx} (h : BsW xs) (i j : Nat) : BxW (crB xs ys i j) := by
 refine ⟨is_len _ _, is_len _ _, Nat.le_trans (is_le _ _) (by decide), Nat.le_trans (is_le _ _) (by decide), ?_, cmS_W (h.ms i) _ _⟩
 have h1 := cmS_le (qbM xs i) (qbM ys j) (List.length (qbM xs i))
 have h2 := h.at i
 show List.length (cmS _ _ _) ≤ _
 omega
def cjL (xs ys : List Bx) (i : Nat) (o : List Bx) : Nat → List Bx
 | 0 => o
 | j + 1 => if crV xs ys i j = true then cjL xs ys i o j ++ [crB xs ys i j] else cjL xs ys i o j
def ciL (xs ys : List Bx) : Nat → List Bx
 | 0 => []
 | i + 1 => cjL xs ys i (ciL xs ys i) (List.length ys)
def ljB (xs ys : List Bx) (i : Nat) (b : Bool) : Nat → Bool
 | 0 => b
 | j + 1 => ljB xs ys i b j && (!(crV xs ys i j) || (crS xs ys i j && decide (List.length (cjL xs ys i (ciL xs ys i) j) ≠ 64)))
def liB (xs ys : List Bx) : Nat → Bool
 | 0 => true
 | i + 1 => ljB xs ys i (liB xs ys i) (List.length ys)
theorem lj_mono (xs ys : List Bx) (i : Nat) (b : Bool) (j : Nat) : ∀ k, ljB xs ys i b j = false → ljB xs ys i b (j + k) = false
 | 0, h => h
 | k + 1, h => by
  show (ljB xs ys i b (j + k) && _) = false
  rw [lj_mono xs ys i b j k h]; rfl
theorem lj_b (xs ys : List Bx) (i : Nat) : ∀ k, ljB xs ys i false k = false
 | 0 => rfl
 | k + 1 => by
  show (ljB xs ys i false k && _) = false
  rw [lj_b xs ys i k]; rfl
theorem li_mono (xs ys : List Bx) (i : Nat) : ∀ k, liB xs ys i = false → liB xs ys (i + k) = false
 | 0, h => h
 | k + 1, h => by
  show ljB xs ys (i + k) (liB xs ys (i + k)) _ = false
  rw [li_mono xs ys i k h]; exact lj_b ..
theorem li_bad {xs ys : List Bx} {i j : Nat} (hi : i < List.length xs) (hj : j < List.length ys) (h1 : crV xs ys i j = true) (h2 : crS xs ys i j = false ∨ List.length (cjL xs ys i (ciL xs ys i) j) = 64) : liB xs ys (List.length xs) = false := by
 have a1 : ljB xs ys i (liB xs ys i) (j + 1) = false := by
  show (_ && (!(crV xs ys i j) || _)) = false
  rw [h1]
  rcases h2 with h2 | h2
  ·rw [h2]; simp
  ·rw [h2]; simp
 have a2 := lj_mono xs ys i (liB xs ys i) (j + 1) (List.length ys - (j + 1)) a1
 rw [show j + 1 + (List.length ys - (j + 1)) = List.length ys by omega] at a2
 have a3 := li_mono xs ys (i + 1) (List.length xs - (i + 1)) a2
 rw [show i + 1 + (List.length xs - (i + 1)) = List.length xs by omega] at a3
 exact a3
def CI (xs ys : List Bx) (i : Nat) (o : List Bx) : Prop := ciL xs ys i = o ∧ liB xs ys i = true
def CJ2 (xs ys : List Bx) (i j : Nat) (o : List Bx) : Prop := cjL xs ys i (ciL xs ys i) j = o ∧ ljB xs ys i (liB xs ys i) j = true
theorem CI.zero (xs ys : List Bx) : CI xs ys 0 [] := ⟨rfl, rfl⟩
theorem CI.in {xs ys : List Bx} {i : Nat} {o : List Bx} (h : CI xs ys i o) : CJ2 xs ys i 0 o := h
theorem CJ2.out {xs ys : List Bx} {i j : Nat} {o : List Bx} (h : CJ2 xs ys i j o) (hj : j = List.length ys) : CI xs ys (i + 1) o := by subst hj; exact h
theorem CJ2.n {xs ys : List Bx} {i j : Nat} {o : List Bx} (h : CJ2 xs ys i j o) (h1 : crV xs ys i j = false) : CJ2 xs ys i (j + 1) o := by
 refine ⟨?_, ?_⟩
 ·show (if crV xs ys i j = true then _ else _) = o
  rw [if_neg (by rw [h1]; decide)]; exact h.1
 ·show (ljB xs ys i (liB xs ys i) j && _) = true
  rw [h.2, h1]; rfl
theorem CJ2.y {xs ys : List Bx} {i j : Nat} {o : List Bx} (h : CJ2 xs ys i j o) (h1 : crV xs ys i j = true) (h2 : crS xs ys i j = true) (h3 : ¬ List.length o = 64) : CJ2 xs ys i (j + 1) (o ++ [crB xs ys i j]) := by
 refine ⟨?_, ?_⟩
 ·show (if crV xs ys i j = true then _ else _) = _
  rw [if_pos h1, h.1]
 ·show (ljB xs ys i (liB xs ys i) j && (!(crV xs ys i j) || (crS xs ys i j && decide _))) = true
  rw [h.2, h1, h2, h.1, decide_eq_true h3]; rfl
def ixV (a b : List Bx) : Bool := vbB a && vbB b
def ixR (a b : List Bx) : List Bx := if ixV a b = true then (if liB a b (List.length a) = true then rdR (ciL a b (List.length a)) else []) else []
def ixE (a b : List Bx) : Int := if ixV a b = true then (if liB a b (List.length a) = true then rdE (ciL a b (List.length a)) else 3) else 1
theorem ix_a {a b : List Bx} (h : vbB a = false) : ixR a b = [] ∧ ixE a b = 1 := by unfold ixR ixE ixV; rw [h]; exact ⟨rfl, rfl⟩
theorem ix_b {a b : List Bx} (h : vbB b = false) : ixR a b = [] ∧ ixE a b = 1 := by unfold ixR ixE ixV; rw [h, Bool.and_false]; exact ⟨rfl, rfl⟩
theorem ix_l {a b : List Bx} (h1 : vbB a = true) (h2 : vbB b = true) (h : liB a b (List.length a) = false) : ixR a b = [] ∧ ixE a b = 3 := by unfold ixR ixE ixV; rw [h1, h2, h]; exact ⟨rfl, rfl⟩
theorem ix_y {a b o : List Bx} {i : Nat} (h1 : vbB a = true) (h2 : vbB b = true) (h : CI a b i o) (hi : i = List.length a) : ixR a b = rdR o ∧ ixE a b = rdE o := by
 subst hi
 unfold ixR ixE ixV; rw [h1, h2, h.1, h.2]; exact ⟨rfl, rfl⟩
theorem cjL_W {xs ys : List Bx} (h : BsW xs) (i : Nat) {o : List Bx} (ho : BsW o) : ∀ j, BsW (cjL xs ys i o j)
 | 0 => ho
 | j + 1 => by
  rw [cjL]; split
  ·exact (cjL_W h i ho j).app (BsW.one (crB_W h i j))
  ·exact cjL_W h i ho j
theorem ciL_W {xs ys : List Bx} (h : BsW xs) : ∀ i, BsW (ciL xs ys i)
 | 0 => BsW.nil
 | i + 1 => cjL_W h i (ciL_W h i) _
theorem ixR_W {a b : List Bx} (h : BsW a) : BsW (ixR a b) := by
 unfold ixR; split
 ·split
  ·exact rdR_W (ciL_W h _)
  ·exact BsW.nil
 ·exact BsW.nil
theorem ixE_rng (a b : List Bx) : 0 ≤ ixE a b ∧ ixE a b ≤ 3 := by
 unfold ixE; split
 ·split
  ·have := rdE_rng (ciL a b (List.length a)); omega
  ·decide
 ·decide
theorem rdR_64 (xs : List Bx) : List.length (rdR xs) ≤ 64 := by
 unfold rdR; split
 ·rename_i h
  have h1 := (of_decide_eq_true h).1
  exact Nat.le_trans (rdS_le xs _) h1
 ·exact Nat.zero_le _
theorem ixR_64 (a b : List Bx) : List.length (ixR a b) ≤ 64 := by
 unfold ixR; split
 ·split
  ·exact rdR_64 _
  ·exact Nat.zero_le _
 ·exact Nat.zero_le _
def siX (k r : Int) (m : List Int) (z : Int) : List Bx := [mkBx (IntKind.i64.wrap (1 * ((2 ^ k.toNat : Nat) : Int))) [r, r] 1 [m] [z, z] 1]
def siL (k r : Int) (m : List Int) (z : Int) : List Bx := if 1 ≤ k ∧ k ≤ 7 then bxL (siX k r m z) else []
theorem siX_W (k r : Int) (m : List Int) (z : Int) (h : List.length m ≤ 1000000) : BsW (siX k r m z) := BsW.one ⟨rfl, rfl, (by decide : 1 ≤ 1000000), (by decide : 1 ≤ 1000000), (by decide : 1 ≤ 1000000), fun l hl => by rw [List.mem_singleton.1 hl]; exact h⟩
theorem siL_W (k r : Int) (m : List Int) (z : Int) (h : List.length m ≤ 1000000) : BsW (siL k r m z) := by
 unfold siL; split; exact bxL_W (siX_W k r m z h); exact BsW.nil
theorem siL_le (k r : Int) (m : List Int) (z : Int) : List.length (siL k r m z) ≤ 1 := by
 unfold siL; split; exact bxL_le _; exact Nat.zero_le _
theorem mt_take {m : List (List Int)} {z : Nat} (h : z < m.length) : msD (List.take (z + 1) m) = msD (List.take z m ++ [List.getD m z []]) := by
 rw [List.take_succ_eq_append_getElem h, List.getD_eq_getElem?_getD, List.getElem?_eq_getElem h]; rfl
theorem R_in1 (a : List Int) (n : Nat) (k : Int) (r : List Int) (rn : Nat) (m : List (List Int)) (c : Nat) (s : List Int) (sn : Nat) (hn : List.length a = n) (h1 : n ≤ 1000000) (hc : List.length m = c) (h3 : c ≤ 1000000) (hW : MsW m) : Fun 124 [.c (.d (D.sl (dI .i64 a) n)), .c (.ptr 0 0)] (toG [(0, some (59, .ds [iD k, D.sl (dI .i64 r) rn, D.sl (msD m) c, D.sl (dI .i64 s) sn]))]) 1 (.e (.c (.d (D.lit (.bool (nhB m a)))))) (toG [(0, some (59, .ds [iD k, D.sl (dI .i64 r) rn, D.sl (msD m) c, D.sl (dI .i64 s) sn]))]) 1 := by
 refine Fun.mk (n := 9) Tryz.func124 rfl rfl (Nat.le_of_ble_eq_true rfl) ?_
 intro cx hcx
 refine y9r [.no] True [(0, sV .i64 a n), (1, rV 0 0)] [(0, some (59, .ds [iD k, dl r rn, D.sl (msD m) c, dl s sn]))] 1 trivial ?_
 rcases Bool.eq_false_or_eq_true (hmB m a) with hx1 | hx1
 ·refine y9s [.no, .no, .no, .call [] (bV true) [] 0 [] none, .no, .no] (Fun 96 [.c (.d (D.sl (msD m) c)), .c (.d (dl a n))] (toG []) 0 (bV true) (toG []) 0) [(3, bV false)] (by have h0 := (M_has m c a n zo zo zo zo (show MsW m by with_reducible assumption)); rw [hx1] at h0; exact h0) ?_
  refine AW.ret ?_
  exact EndP.of (.inr rfl) [] (P := ((nhB m a) = false) ∧ (q9d [iD k, dl r rn, D.sl (msD m) c, dl s sn])) zk ⟨(by first | exact nh_t (by assumption) | exact nh_f (by assumption)), rfl⟩
 ·refine y9s [.no, .no, .no, .call [] (bV false) [] 0 [] none, .no, .no] (Fun 96 [.c (.d (D.sl (msD m) c)), .c (.d (dl a n))] (toG []) 0 (bV false) (toG []) 0) [(3, bV true)] (by have h0 := (M_has m c a n zo zo zo zo (show MsW m by with_reducible assumption)); rw [hx1] at h0; exact h0) ?_
  refine AW.ret ?_
  exact EndP.of (.inr rfl) [] (P := ((nhB m a) = true) ∧ (q9d [iD k, dl r rn, D.sl (msD m) c, dl s sn])) zk ⟨(by first | exact nh_t (by assumption) | exact nh_f (by assumption)), rfl⟩
theorem zl10r11 {p : Prop} (h : p := by first | omega | assumption | simp) : p := h
theorem zl10r4 {p : Prop} (h : p := by first | omega | (simp only [msD_len, bxD_len, List.length_append, List.length_cons, List.length_nil, List.length_take, List.length_drop] <;> omega)) : p := h
theorem zl10r2 {p : Prop} (h : p := by first | omega | with_reducible assumption | (simp only [msD_len, bxD_len, List.length_append, List.length_cons, List.length_nil, List.length_take, List.length_drop, List.length_replicate, List.length_set] <;> omega) | rfl | assumption) : p := h
theorem zl10r9 {p : Prop} (h : p := by first | rfl | omega | assumption | (simp; done) | (simp; omega)) : p := h
theorem zl10r10 {p : Prop} (h : p := by first | omega | (show _ < _; simp; omega)) : p := h
abbrev t0R3_0 (k : Int) (r : List Int) (rn : Nat) (m : List (List Int)) (c : Nat) (s : List Int) (sn : Nat) : BC := .ds [iD k, D.sl (dI .i64 r) rn, D.sl (msD m) c, D.sl (dI .i64 s) sn]
theorem R_ixs (a : List (List Int)) (n : Nat) (k : Int) (r : List Int) (rn : Nat) (m : List (List Int)) (c : Nat) (s : List Int) (sn : Nat) (hn : List.length a = n) (h1 : n ≤ 1000000) (hA : MsW a) (hc : List.length m = c) (h3 : c ≤ 1000000) (hW : MsW m) : Fun 146 [.c (.d (D.sl (msD a) n)), .c (.fn 124 [(0, 0)])] (toG [(0, some (59, .ds [iD k, D.sl (dI .i64 r) rn, D.sl (msD m) c, D.sl (dI .i64 s) sn]))]) 1 (iV (stK a m n)) (toG [(0, some (59, .ds [iD k, D.sl (dI .i64 r) rn, D.sl (msD m) c, D.sl (dI .i64 s) sn]))]) 1 := by
 refine Fun.mk (n := 19) Tryz.func146 rfl rfl (Nat.le_of_ble_eq_true rfl) ?_
 intro cx hcx
 refine y9r [.no] True [(0, .e (.c (.d (D.sl (msD a) n)))), (1, .e (.c (.fn 124 [(0, 0)])))] [(0, some (59, (t0R3_0 k r rn m c s sn)))] 1 trivial ?_
 refine AW.seq ?_
 refine y9s [.no, .no, .no] True [(0, .e (.c (.d (D.sl (msD a) n)))), (1, .e (.c (.fn 124 [(0, 0)]))), (7, uV n), (8, iV 0)] trivial ?_
 refine AW.block ?_
 refine AW.loopE 1 hcx (fun (x : {x : Nat // match x with | z => (z ≤ n) ∧ (stK a m z = -1)}) => match x with | ⟨z, _⟩ => (⟨[(0, .e (.c (.d (D.sl (msD a) n)))), (1, .e (.c (.fn 124 [(0, 0)]))), (7, uV n), (8, uV z)], [(0, some (59, (t0R3_0 k r rn m c s sn)))], 1⟩ : ES)) (fun x => match x with | ⟨z, _⟩ => n - z) ⟨(0 : Nat), ⟨zl10r11, rfl⟩⟩ [] (P := (q9d (msD a)) ∧ (q9n n) ∧ (q9i (n : Int)) ∧ (q9i 0) ∧ (q9d [iD k, dl r rn, D.sl (msD m) c, dl s sn])) zk ⟨rfl, rfl, rfl, rfl, rfl⟩ ?_
 rintro ⟨z, hinv0⟩
 obtain ⟨hk, hi⟩ : (z ≤ n) ∧ (stK a m z = -1) := hinv0
 refine AW.es (l := [(0, .e (.c (.d (D.sl (msD a) n)))), (1, .e (.c (.fn 124 [(0, 0)]))), (7, uV n), (8, uV z)]) (g := [(0, some (59, (t0R3_0 k r rn m c s sn)))]) (nx := 1) rfl rfl rfl ?_
 by_cases hx1 : (((z : Nat) : Int) < ((n : Nat) : Int))
 ·refine y9r [.b true] (((z : Int) < (n : Int))) [(0, .e (.c (.d (D.sl (msD a) n)))), (1, .e (.c (.fn 124 [(0, 0)]))), (7, uV n), (8, uV z), (9, bV true)] [(0, some (59, (t0R3_0 k r rn m c s sn)))] 1 zo ?_
  refine AW.seq ?_
  refine zts ?_
  refine AW.seq ?_
  refine AW.block ?_
  refine y9s [.no, .no] True [(0, .e (.c (.d (D.sl (msD a) n)))), (1, .e (.c (.fn 124 [(0, 0)]))), (5, uV z), (7, uV n), (8, uV z)] trivial ?_
  rcases Bool.eq_false_or_eq_true (nhB m (List.getD a z ([] : List Int))) with hx3 | hx3
  ·have hx4 : ((List.length (List.getD a z ([] : List Int))) ≤ 1000000) := MsW.at (show MsW a by with_reducible assumption) _
   refine y9s [.no, .no, .no, .n z, .d (dl (List.getD a z ([] : List Int)) (List.length (List.getD a z ([] : List Int)))), .call [0] (bV true) [(0, some (59, (t0R3_0 k r rn m c s sn)))] 1 [] none] ((q9i (z : Int)) ∧ (z < n) ∧ ((List.drop z (msD a))[0]? = some (dl (List.getD a z ([] : List Int)) (List.length (List.getD a z ([] : List Int))))) ∧ (Fun 124 [.c (.d (dl (List.getD a z ([] : List Int)) (List.length (List.getD a z ([] : List Int))))), .c (.ptr 0 0)] (toG [(0, some (59, (t0R3_0 k r rn m c s sn)))]) 1 (bV true) (toG [(0, some (59, (t0R3_0 k r rn m c s sn)))]) 1)) [(0, .e (.c (.d (D.sl (msD a) n)))), (1, .e (.c (.fn 124 [(0, 0)]))), (5, uV z), (7, uV n), (8, uV z), (16, bV true)] ⟨rfl, zo, (msD_at _ _ zl10r4), (by have h0 := (R_in1 (List.getD a z ([] : List Int)) (List.length (List.getD a z ([] : List Int))) k r rn m c s sn rfl zl10r2 zo zo (show MsW m by with_reducible assumption)); rw [hx3] at h0; exact h0)⟩ ?_
   refine zt ?_
   refine y9s [.no, .no] True [(4, uV z)] trivial ?_
   refine AW.ret ?_
   exact EndP.of (.inr rfl) [] (P := (((stK a m n) : Int) = (z : Int)) ∧ (q9d [iD k, dl r rn, D.sl (msD m) c, dl s sn])) zk ⟨(by first | rfl | exact stK_h hi (by assumption) zo | (rw [show n = z by omega]; exact hi) | omega), rfl⟩
  ·have hx5 : ((List.length (List.getD a z ([] : List Int))) ≤ 1000000) := MsW.at (show MsW a by with_reducible assumption) _
   refine y9s [.no, .no, .no, .n z, .d (dl (List.getD a z ([] : List Int)) (List.length (List.getD a z ([] : List Int)))), .call [0] (bV false) [(0, some (59, (t0R3_0 k r rn m c s sn)))] 1 [] none] ((q9i (z : Int)) ∧ (z < n) ∧ ((List.drop z (msD a))[0]? = some (dl (List.getD a z ([] : List Int)) (List.length (List.getD a z ([] : List Int))))) ∧ (Fun 124 [.c (.d (dl (List.getD a z ([] : List Int)) (List.length (List.getD a z ([] : List Int))))), .c (.ptr 0 0)] (toG [(0, some (59, (t0R3_0 k r rn m c s sn)))]) 1 (bV false) (toG [(0, some (59, (t0R3_0 k r rn m c s sn)))]) 1)) [(0, .e (.c (.d (D.sl (msD a) n)))), (1, .e (.c (.fn 124 [(0, 0)]))), (5, uV z), (7, uV n), (8, uV z), (16, bV false)] ⟨rfl, zo, (msD_at _ _ zl10r4), (by have h0 := (R_in1 (List.getD a z ([] : List Int)) (List.length (List.getD a z ([] : List Int))) k r rn m c s sn rfl zl10r2 zo zo (show MsW m by with_reducible assumption)); rw [hx3] at h0; exact h0)⟩ ?_
   refine zfs ?_
   refine y9h [.w, .no] ((-9223372036854775808) ≤ ((z : Int) + 1) ∧ ((z : Int) + 1) ≤ 9223372036854775807) [(0, .e (.c (.d (D.sl (msD a) n)))), (1, .e (.c (.fn 124 [(0, 0)]))), (7, uV n), (8, iV (↑z + 1))] ⟨by omega, by omega⟩ ?_
   exact Rd.of ⟨((z + 1) : Nat), ⟨zl10r11, (stK_m hi (by assumption))⟩⟩ [] (P := (q9d (msD a)) ∧ (q9n n) ∧ (q9i (n : Int)) ∧ (((((z + 1) : Nat) : Int) : Int) = ((z : Int) + 1)) ∧ (q9d [iD k, dl r rn, D.sl (msD m) c, dl s sn])) zk ⟨rfl, rfl, rfl, zl10r9, rfl⟩ (show n - (z + 1) < n - z from zl10r10)
 ·refine y9r [.b false] (¬ ((z : Int) < (n : Int))) [(0, .e (.c (.d (D.sl (msD a) n)))), (1, .e (.c (.fn 124 [(0, 0)]))), (7, uV n), (8, uV z), (9, bV false)] [(0, some (59, (t0R3_0 k r rn m c s sn)))] 1 zo ?_
  refine AW.seq ?_
  refine zf ?_
  refine AW.exit ?_
  refine y9r [.no] True [(4, iV (-1))] [(0, some (59, (t0R3_0 k r rn m c s sn)))] 1 trivial ?_
  refine AW.ret ?_
  exact EndP.of (.inr rfl) [] (P := (((stK a m n) : Int) = (-1)) ∧ (q9d [iD k, dl r rn, D.sl (msD m) c, dl s sn])) zk ⟨(by first | rfl | exact stK_h hi (by assumption) zo | (rw [show n = z by omega]; exact hi) | omega), rfl⟩
theorem R_cfs (a : List (List Int)) (n : Nat) (k : Int) (r : List Int) (rn : Nat) (m : List (List Int)) (c : Nat) (s : List Int) (sn : Nat) (hn : List.length a = n) (h1 : n ≤ 1000000) (hA : MsW a) (hc : List.length m = c) (h3 : c ≤ 1000000) (hW : MsW m) : Fun 126 [.c (.d (D.sl (msD a) n)), .c (.fn 124 [(0, 0)])] (toG [(0, some (59, .ds [iD k, D.sl (dI .i64 r) rn, D.sl (msD m) c, D.sl (dI .i64 s) sn]))]) 1 (.e (.c (.d (D.lit (.bool (sgB a m)))))) (toG [(0, some (59, .ds [iD k, D.sl (dI .i64 r) rn, D.sl (msD m) c, D.sl (dI .i64 s) sn]))]) 1 := by
 refine Fun.mk (n := 9) Tryz.func126 rfl rfl (Nat.le_of_ble_eq_true rfl) ?_
 intro cx hcx
 refine y9r [.no] True [(0, .e (.c (.d (D.sl (msD a) n)))), (1, .e (.c (.fn 124 [(0, 0)])))] [(0, some (59, .ds [iD k, dl r rn, D.sl (msD m) c, dl s sn]))] 1 trivial ?_
 by_cases hx1 : ((0 : Int) ≤ (stK a m n))
 ·refine y9s [.no, .no, .call [0] (iV (stK a m n)) [(0, some (59, .ds [iD k, dl r rn, D.sl (msD m) c, dl s sn]))] 1 [] none, .b true, .no] ((_) ∧ (((0 : Int) ≤ (stK a m n)))) [(4, bV true)] ⟨(R_ixs a n k r rn m c s sn zo zo (show MsW a by with_reducible assumption) zo zo (show MsW m by with_reducible assumption)), zo⟩ ?_
  refine AW.ret ?_
  exact EndP.of (.inr rfl) [] (P := ((sgB a m) = true) ∧ (q9d [iD k, dl r rn, D.sl (msD m) c, dl s sn])) zk ⟨(by first | exact sg_t hn zo | exact sg_f hn zo), rfl⟩
 ·refine y9s [.no, .no, .call [0] (iV (stK a m n)) [(0, some (59, .ds [iD k, dl r rn, D.sl (msD m) c, dl s sn]))] 1 [] none, .b false, .no] ((_) ∧ (¬ ((0 : Int) ≤ (stK a m n)))) [(4, bV false)] ⟨(R_ixs a n k r rn m c s sn zo zo (show MsW a by with_reducible assumption) zo zo (show MsW m by with_reducible assumption)), zo⟩ ?_
  refine AW.ret ?_
  exact EndP.of (.inr rfl) [] (P := ((sgB a m) = false) ∧ (q9d [iD k, dl r rn, D.sl (msD m) c, dl s sn])) zk ⟨(by first | exact sg_t hn zo | exact sg_f hn zo), rfl⟩
theorem zl10r3 {p : Prop} (h : p := by first | exact ni_t (by omega) (by assumption) (by assumption) (by assumption) | exact ni_k (by omega) | exact ni_r (by assumption) | exact ni_m (by assumption) | exact ni_s (by assumption)) : p := h
abbrev t0R5_0 (k2 : Int) (r2 : List Int) (rn2 : Nat) (m2 : List (List Int)) (c2 : Nat) (s2 : List Int) (sn2 : Nat) : BC := .ds [iD k2, D.sl (dI .i64 r2) rn2, D.sl (msD m2) c2, D.sl (dI .i64 s2) sn2]
theorem R_in (k : Int) (r : List Int) (rn : Nat) (m : List (List Int)) (c : Nat) (s : List Int) (sn : Nat) (k2 : Int) (r2 : List Int) (rn2 : Nat) (m2 : List (List Int)) (c2 : Nat) (s2 : List Int) (sn2 : Nat) (hr : List.length r = rn * 2) (hs : List.length s = sn * 2) (hc : List.length m = c) (h1 : rn ≤ 1000000) (h2 : sn ≤ 1000000) (h3 : c ≤ 1000000) (hW : MsW m) (hr2 : List.length r2 = rn2 * 2) (hs2 : List.length s2 = sn2 * 2) (hc2 : List.length m2 = c2) (h12 : rn2 ≤ 1000000) (h22 : sn2 ≤ 1000000) (h32 : c2 ≤ 1000000) (hW2 : MsW m2) : Fun 80 [.agg [iC k, .d (D.sl (dI .i64 r) rn), .d (D.sl (msD m) c), .d (D.sl (dI .i64 s) sn)], .agg [iC k2, .d (D.sl (dI .i64 r2) rn2), .d (D.sl (msD m2) c2), .d (D.sl (dI .i64 s2) sn2)]] (toG []) 0 (.e (.c (.d (D.lit (.bool (niB k r rn m s sn k2 r2 rn2 m2 s2 sn2)))))) (toG []) 0 := by
 refine Fun.mk (n := 34) Tryz.func80 rfl rfl (Nat.le_of_ble_eq_true rfl) ?_
 intro cx hcx
 refine y9r [.no, .no, .no] True [(2, rV 0 0), (3, rV 1 0)] [(0, some (59, .ds [iD k, dl r rn, D.sl (msD m) c, dl s sn])), (1, some (59, (t0R5_0 k2 r2 rn2 m2 c2 s2 sn2)))] 2 trivial ?_
 refine y9s [.no, .no] True [(2, rV 0 0), (3, rV 1 0), (5, .e (.c (.fn 124 [(1, 0)])))] trivial ?_
 by_cases hx1 : ((anW k k2) = 0)
 ·rcases Bool.eq_false_or_eq_true (inB (spS r rn) (spS r2 rn2)) with hx2 | hx2
  ·rcases Bool.eq_false_or_eq_true (sgB m m2) with hx3 | hx3
   ·refine y9r (nz9 4 (.i (anW k k2) :: .b true :: nz9 5 (.call [] (bV true) [] 0 [] none :: nz9 5 (.call [1] (bV true) [(0, some (59, (t0R5_0 k2 r2 rn2 m2 c2 s2 sn2)))] 1 [] none :: nz9 5 [])))) ((bitsI .andNot .i64 k k2 = (anW k k2)) ∧ (((anW k k2) = 0)) ∧ (Fun 125 [.agg [.d (dl r rn)], .agg [.d (dl r2 rn2)]] (toG []) 0 (bV true) (toG []) 0) ∧ (Fun 126 [.c (.d (D.sl (msD m) c)), .c (.fn 124 [(0, 0)])] (toG [(0, some (59, (t0R5_0 k2 r2 rn2 m2 c2 s2 sn2)))]) 1 (bV true) (toG [(0, some (59, (t0R5_0 k2 r2 rn2 m2 c2 s2 sn2)))]) 1)) [(4, bV false)] [] 2 ⟨rfl, zo, (by have h0 := (U_Inside r r2 rn rn2 zo zo zo zo); rw [hx2] at h0; exact h0), (by have h0 := (R_cfs m c k2 r2 rn2 m2 c2 s2 sn2 zo zo (show MsW m by with_reducible assumption) zo zo (show MsW m2 by with_reducible assumption)); rw [hx3] at h0; exact h0)⟩ ?_
    refine AW.ret ?_
    exact EndP.of (.inr rfl) [] (P := ((niB k r rn m s sn k2 r2 rn2 m2 s2 sn2) = false)) zk zl10r3
   ·rcases Bool.eq_false_or_eq_true (inB (spS s sn) (spS s2 sn2)) with hx4 | hx4
    ·refine y9r (nz9 4 (.i (anW k k2) :: .b true :: nz9 5 (.call [] (bV true) [] 0 [] none :: nz9 5 (.call [1] (bV false) [(0, some (59, (t0R5_0 k2 r2 rn2 m2 c2 s2 sn2)))] 1 [] none :: nz9 7 [.call [] (bV true) [] 0 [] none, .no, .no])))) ((bitsI .andNot .i64 k k2 = (anW k k2)) ∧ (((anW k k2) = 0)) ∧ (Fun 125 [.agg [.d (dl r rn)], .agg [.d (dl r2 rn2)]] (toG []) 0 (bV true) (toG []) 0) ∧ (Fun 126 [.c (.d (D.sl (msD m) c)), .c (.fn 124 [(0, 0)])] (toG [(0, some (59, (t0R5_0 k2 r2 rn2 m2 c2 s2 sn2)))]) 1 (bV false) (toG [(0, some (59, (t0R5_0 k2 r2 rn2 m2 c2 s2 sn2)))]) 1) ∧ (Fun 125 [.agg [.d (dl s sn)], .agg [.d (dl s2 sn2)]] (toG []) 0 (bV true) (toG []) 0)) [(4, bV true)] [] 2 ⟨rfl, zo, (by have h0 := (U_Inside r r2 rn rn2 zo zo zo zo); rw [hx2] at h0; exact h0), (by have h0 := (R_cfs m c k2 r2 rn2 m2 c2 s2 sn2 zo zo (show MsW m by with_reducible assumption) zo zo (show MsW m2 by with_reducible assumption)); rw [hx3] at h0; exact h0), (by have h0 := (U_Inside s s2 sn sn2 zo zo zo zo); rw [hx4] at h0; exact h0)⟩ ?_
     refine AW.ret ?_
     exact EndP.of (.inr rfl) [] (P := ((niB k r rn m s sn k2 r2 rn2 m2 s2 sn2) = true)) zk zl10r3
    ·refine y9r (nz9 4 (.i (anW k k2) :: .b true :: nz9 5 (.call [] (bV true) [] 0 [] none :: nz9 5 (.call [1] (bV false) [(0, some (59, (t0R5_0 k2 r2 rn2 m2 c2 s2 sn2)))] 1 [] none :: nz9 7 [.call [] (bV false) [] 0 [] none, .no, .no])))) ((bitsI .andNot .i64 k k2 = (anW k k2)) ∧ (((anW k k2) = 0)) ∧ (Fun 125 [.agg [.d (dl r rn)], .agg [.d (dl r2 rn2)]] (toG []) 0 (bV true) (toG []) 0) ∧ (Fun 126 [.c (.d (D.sl (msD m) c)), .c (.fn 124 [(0, 0)])] (toG [(0, some (59, (t0R5_0 k2 r2 rn2 m2 c2 s2 sn2)))]) 1 (bV false) (toG [(0, some (59, (t0R5_0 k2 r2 rn2 m2 c2 s2 sn2)))]) 1) ∧ (Fun 125 [.agg [.d (dl s sn)], .agg [.d (dl s2 sn2)]] (toG []) 0 (bV false) (toG []) 0)) [(4, bV false)] [] 2 ⟨rfl, zo, (by have h0 := (U_Inside r r2 rn rn2 zo zo zo zo); rw [hx2] at h0; exact h0), (by have h0 := (R_cfs m c k2 r2 rn2 m2 c2 s2 sn2 zo zo (show MsW m by with_reducible assumption) zo zo (show MsW m2 by with_reducible assumption)); rw [hx3] at h0; exact h0), (by have h0 := (U_Inside s s2 sn sn2 zo zo zo zo); rw [hx4] at h0; exact h0)⟩ ?_
     refine AW.ret ?_
     exact EndP.of (.inr rfl) [] (P := ((niB k r rn m s sn k2 r2 rn2 m2 s2 sn2) = false)) zk zl10r3
  ·refine y9r (nz9 4 (.i (anW k k2) :: .b true :: nz9 5 (.call [] (bV false) [] 0 [] none :: nz9 6 []))) ((bitsI .andNot .i64 k k2 = (anW k k2)) ∧ (((anW k k2) = 0)) ∧ (Fun 125 [.agg [.d (dl r rn)], .agg [.d (dl r2 rn2)]] (toG []) 0 (bV false) (toG []) 0)) [(4, bV false)] [] 2 ⟨rfl, zo, (by have h0 := (U_Inside r r2 rn rn2 zo zo zo zo); rw [hx2] at h0; exact h0)⟩ ?_
   refine AW.ret ?_
   exact EndP.of (.inr rfl) [] (P := ((niB k r rn m s sn k2 r2 rn2 m2 s2 sn2) = false)) zk zl10r3
 ·refine y9r (nz9 4 (.i (anW k k2) :: .b false :: nz9 7 [])) ((bitsI .andNot .i64 k k2 = (anW k k2)) ∧ (¬ ((anW k k2) = 0))) [(4, bV false)] [] 2 ⟨rfl, zo⟩ ?_
  refine AW.ret ?_
  exact EndP.of (.inr rfl) [] (P := ((niB k r rn m s sn k2 r2 rn2 m2 s2 sn2) = false)) zk zl10r3
theorem zl10r6 {p : Prop} (h : p := by first | exact ge_l (by omega) (by assumption) (by omega) | exact ge_n (by omega) (by assumption) (by assumption)) : p := h
theorem R_goes (xs : List Bx) (n i : Nat) (hn : List.length xs = n) (h1 : n ≤ 1000000) (hW : BsW xs) (hi : i < n) : Fun 39 [.c (.d (D.sl (bxD xs) n)), iE ((i : Nat) : Int)] (toG []) 0 (.e (.c (.d (D.lit (.bool (goB xs i)))))) (toG []) 0 := by
 refine Fun.mk (n := 40) Tryz.func39 rfl rfl (Nat.le_of_ble_eq_true rfl) ?_
 intro cx hcx
 refine y9r [.no] True [(0, .e (.c (.d (D.sl (bxD xs) n)))), (1, uV i)] [] 0 trivial ?_
 refine AW.seq ?_
 refine y9s [.no, .no, .no] True [(0, .e (.c (.d (D.sl (bxD xs) n)))), (1, uV i), (7, .e (.c (.d (D.sl (bxD xs) n)))), (8, uV n), (9, iV 0)] trivial ?_
 refine AW.block ?_
 refine AW.loopE 0 hcx (fun (x : {x : Nat // match x with | z => (z ≤ n) ∧ (∀ j, j < z → goE xs i j = false)}) => match x with | ⟨z, _⟩ => (⟨[(0, .e (.c (.d (D.sl (bxD xs) n)))), (1, uV i), (7, .e (.c (.d (D.sl (bxD xs) n)))), (8, uV n), (9, uV z)], [], 0⟩ : ES)) (fun x => match x with | ⟨z, _⟩ => n - z) ⟨(0 : Nat), ⟨zl10r11, (fun j hj => absurd hj (Nat.not_lt_zero j))⟩⟩ [] (P := (q9d (bxD xs)) ∧ (q9n n) ∧ (q9i (i : Int)) ∧ (q9d (bxD xs)) ∧ (q9n n) ∧ (q9i (n : Int)) ∧ (q9i 0)) zk ⟨rfl, rfl, rfl, rfl, rfl, rfl, rfl⟩ ?_
 rintro ⟨z, hinv0⟩
 obtain ⟨hz, ha⟩ : (z ≤ n) ∧ (∀ j, j < z → goE xs i j = false) := hinv0
 refine AW.es (l := [(0, .e (.c (.d (D.sl (bxD xs) n)))), (1, uV i), (7, .e (.c (.d (D.sl (bxD xs) n)))), (8, uV n), (9, uV z)]) (g := []) (nx := 0) rfl rfl rfl ?_
 by_cases hx1 : (((z : Nat) : Int) < ((n : Nat) : Int))
 ·refine y9r [.b true] (((z : Int) < (n : Int))) [(0, .e (.c (.d (D.sl (bxD xs) n)))), (1, uV i), (7, .e (.c (.d (D.sl (bxD xs) n)))), (8, uV n), (9, uV z), (10, bV true)] [] 0 zo ?_
  refine AW.seq ?_
  refine zts ?_
  refine AW.seq ?_
  refine AW.block ?_
  obtain ⟨hx2, hx3, hx4, hx5, hx6⟩ := BsW.at (show BsW xs by with_reducible assumption) (z)
  refine y9r [.no, .n z, .ds [iD (qbK xs z), dl (qbR xs z) (qbN xs z), D.sl (msD (qbM xs z)) (List.length (qbM xs z)), dl (qbS xs z) (qbT xs z)], .no, .no, .no] ((q9i (z : Int)) ∧ (z < n) ∧ (List.take 4 (List.drop (z * 4) (bxD xs)) = [iD (qbK xs z), dl (qbR xs z) (qbN xs z), D.sl (msD (qbM xs z)) (List.length (qbM xs z)), dl (qbS xs z) (qbT xs z)]) ∧ (([iD (qbK xs z), dl (qbR xs z) (qbN xs z), D.sl (msD (qbM xs z)) (List.length (qbM xs z)), dl (qbS xs z) (qbT xs z)] : List D).length = 4)) [(0, .e (.c (.d (D.sl (bxD xs) n)))), (1, uV i), (5, uV z), (6, rV 0 0), (7, .e (.c (.d (D.sl (bxD xs) n)))), (8, uV n), (9, uV z)] [(0, some (59, .ds [iD (qbK xs z), dl (qbR xs z) (qbN xs z), D.sl (msD (qbM xs z)) (List.length (qbM xs z)), dl (qbS xs z) (qbT xs z)]))] 1 ⟨rfl, zo, (bx_at zl10r4), rfl⟩ ?_
  by_cases hx7 : (((z : Nat) : Int) ≠ ((i : Nat) : Int))
  ·rcases Bool.eq_false_or_eq_true (niB (qbK xs i) (qbR xs i) (qbN xs i) (qbM xs i) (qbS xs i) (qbT xs i) (qbK xs z) (qbR xs z) (qbN xs z) (qbM xs z) (qbS xs z) (qbT xs z)) with hx13 | hx13
   ·by_cases hx19 : (((z : Nat) : Int) < ((i : Nat) : Int))
    ·obtain ⟨hx20, hx21, hx22, hx23, hx24⟩ := BsW.at (show BsW xs by with_reducible assumption) (i)
     refine y9r [.no, .no, .b true, .no, .no, .no, .n i, .ds [iD (qbK xs i), dl (qbR xs i) (qbN xs i), D.sl (msD (qbM xs i)) (List.length (qbM xs i)), dl (qbS xs i) (qbT xs i)], .no, .call [] (bV true) [] 0 [] none, .no, .no, .no, .no, .b true, .no, .no, .no] ((((z : Int) ≠ (i : Int))) ∧ (q9i (i : Int)) ∧ (i < n) ∧ (List.take 4 (List.drop (i * 4) (bxD xs)) = [iD (qbK xs i), dl (qbR xs i) (qbN xs i), D.sl (msD (qbM xs i)) (List.length (qbM xs i)), dl (qbS xs i) (qbT xs i)]) ∧ (([iD (qbK xs i), dl (qbR xs i) (qbN xs i), D.sl (msD (qbM xs i)) (List.length (qbM xs i)), dl (qbS xs i) (qbT xs i)] : List D).length = 4) ∧ (Fun 80 [.agg [iC (qbK xs i), .d (dl (qbR xs i) (qbN xs i)), .d (D.sl (msD (qbM xs i)) (List.length (qbM xs i))), .d (dl (qbS xs i) (qbT xs i))], .agg [iC (qbK xs z), .d (dl (qbR xs z) (qbN xs z)), .d (D.sl (msD (qbM xs z)) (List.length (qbM xs z))), .d (dl (qbS xs z) (qbT xs z))]] (toG []) 0 (bV true) (toG []) 0) ∧ (((z : Int) < (i : Int)))) [(0, .e (.c (.d (D.sl (bxD xs) n)))), (1, uV i), (7, .e (.c (.d (D.sl (bxD xs) n)))), (8, uV n), (9, uV z), (38, bV true)] [] 1 ⟨zo, rfl, zo, (bx_at zl10r4), rfl, (by have h0 := (R_in (qbK xs i) (qbR xs i) (qbN xs i) (qbM xs i) (List.length (qbM xs i)) (qbS xs i) (qbT xs i) (qbK xs z) (qbR xs z) (qbN xs z) (qbM xs z) (List.length (qbM xs z)) (qbS xs z) (qbT xs z) zl10r2 zl10r2 rfl zl10r2 zl10r2 zl10r2 (BsW.ms (show BsW xs by with_reducible assumption) _) zl10r2 zl10r2 rfl zl10r2 zl10r2 zl10r2 (BsW.ms (show BsW xs by with_reducible assumption) _)); rw [hx13] at h0; exact h0), zo⟩ ?_
     refine zt ?_
     refine y9s [.no] True [(4, bV true)] trivial ?_
     refine AW.ret ?_
     exact EndP.of (.inr rfl) [] (P := ((goB xs i) = true)) zk (by first | exact go_t (j := z) zo zl10r6 | exact go_f (fun j hj => ha j zo))
    ·rcases Bool.eq_false_or_eq_true (niB (qbK xs z) (qbR xs z) (qbN xs z) (qbM xs z) (qbS xs z) (qbT xs z) (qbK xs i) (qbR xs i) (qbN xs i) (qbM xs i) (qbS xs i) (qbT xs i)) with hx30 | hx30
     ·obtain ⟨hx31, hx32, hx33, hx34, hx35⟩ := BsW.at (show BsW xs by with_reducible assumption) (i)
      refine y9r (.no :: .no :: .b true :: .no :: .no :: .no :: .n i :: .ds [iD (qbK xs i), dl (qbR xs i) (qbN xs i), D.sl (msD (qbM xs i)) (List.length (qbM xs i)), dl (qbS xs i) (qbT xs i)] :: .no :: .call [] (bV true) [] 0 [] none :: nz9 4 (.b false :: nz9 4 [.n i, .ds [iD (qbK xs i), dl (qbR xs i) (qbN xs i), D.sl (msD (qbM xs i)) (List.length (qbM xs i)), dl (qbS xs i) (qbT xs i)], .call [] (bV true) [] 0 [] none, .no, .no, .no])) ((((z : Int) ≠ (i : Int))) ∧ (q9i (i : Int)) ∧ (i < n) ∧ (List.take 4 (List.drop (i * 4) (bxD xs)) = [iD (qbK xs i), dl (qbR xs i) (qbN xs i), D.sl (msD (qbM xs i)) (List.length (qbM xs i)), dl (qbS xs i) (qbT xs i)]) ∧ (([iD (qbK xs i), dl (qbR xs i) (qbN xs i), D.sl (msD (qbM xs i)) (List.length (qbM xs i)), dl (qbS xs i) (qbT xs i)] : List D).length = 4) ∧ (Fun 80 [.agg [iC (qbK xs i), .d (dl (qbR xs i) (qbN xs i)), .d (D.sl (msD (qbM xs i)) (List.length (qbM xs i))), .d (dl (qbS xs i) (qbT xs i))], .agg [iC (qbK xs z), .d (dl (qbR xs z) (qbN xs z)), .d (D.sl (msD (qbM xs z)) (List.length (qbM xs z))), .d (dl (qbS xs z) (qbT xs z))]] (toG []) 0 (bV true) (toG []) 0) ∧ (¬ ((z : Int) < (i : Int))) ∧ (q9i (i : Int)) ∧ (i < n) ∧ (List.take 4 (List.drop (i * 4) (bxD xs)) = [iD (qbK xs i), dl (qbR xs i) (qbN xs i), D.sl (msD (qbM xs i)) (List.length (qbM xs i)), dl (qbS xs i) (qbT xs i)]) ∧ (([iD (qbK xs i), dl (qbR xs i) (qbN xs i), D.sl (msD (qbM xs i)) (List.length (qbM xs i)), dl (qbS xs i) (qbT xs i)] : List D).length = 4) ∧ (Fun 80 [.agg [iC (qbK xs z), .d (dl (qbR xs z) (qbN xs z)), .d (D.sl (msD (qbM xs z)) (List.length (qbM xs z))), .d (dl (qbS xs z) (qbT xs z))], .agg [iC (qbK xs i), .d (dl (qbR xs i) (qbN xs i)), .d (D.sl (msD (qbM xs i)) (List.length (qbM xs i))), .d (dl (qbS xs i) (qbT xs i))]] (toG []) 0 (bV true) (toG []) 0)) [(0, .e (.c (.d (D.sl (bxD xs) n)))), (1, uV i), (7, .e (.c (.d (D.sl (bxD xs) n)))), (8, uV n), (9, uV z), (38, bV false)] [] 1 ⟨zo, rfl, zo, (bx_at zl10r4), rfl, (by have h0 := (R_in (qbK xs i) (qbR xs i) (qbN xs i) (qbM xs i) (List.length (qbM xs i)) (qbS xs i) (qbT xs i) (qbK xs z) (qbR xs z) (qbN xs z) (qbM xs z) (List.length (qbM xs z)) (qbS xs z) (qbT xs z) zl10r2 zl10r2 rfl zl10r2 zl10r2 zl10r2 (BsW.ms (show BsW xs by with_reducible assumption) _) zl10r2 zl10r2 rfl zl10r2 zl10r2 zl10r2 (BsW.ms (show BsW xs by with_reducible assumption) _)); rw [hx13] at h0; exact h0), zo, rfl, zo, (bx_at zl10r4), rfl, (by have h0 := (R_in (qbK xs z) (qbR xs z) (qbN xs z) (qbM xs z) (List.length (qbM xs z)) (qbS xs z) (qbT xs z) (qbK xs i) (qbR xs i) (qbN xs i) (qbM xs i) (List.length (qbM xs i)) (qbS xs i) (qbT xs i) zl10r2 zl10r2 rfl zl10r2 zl10r2 zl10r2 (BsW.ms (show BsW xs by with_reducible assumption) _) zl10r2 zl10r2 rfl zl10r2 zl10r2 zl10r2 (BsW.ms (show BsW xs by with_reducible assumption) _)); rw [hx30] at h0; exact h0)⟩ ?_
      refine zfs ?_
      refine y9h [.w, .no] ((-9223372036854775808) ≤ ((z : Int) + 1) ∧ ((z : Int) + 1) ≤ 9223372036854775807) [(0, .e (.c (.d (D.sl (bxD xs) n)))), (1, uV i), (7, .e (.c (.d (D.sl (bxD xs) n)))), (8, uV n), (9, iV (↑z + 1))] ⟨by omega, by omega⟩ ?_
      exact Rd.of ⟨((z + 1) : Nat), ⟨zl10r11, (fun j hj => (Nat.lt_succ_iff_lt_or_eq.1 hj).elim (ha j) (fun e9 => by subst e9; first | exact ge_s zo | exact ge_i (by assumption) | exact ge_b (by assumption) zo))⟩⟩ [] (P := (q9d (bxD xs)) ∧ (q9n n) ∧ (q9i (i : Int)) ∧ (q9d (bxD xs)) ∧ (q9n n) ∧ (q9i (n : Int)) ∧ (((((z + 1) : Nat) : Int) : Int) = ((z : Int) + 1))) zk ⟨rfl, rfl, rfl, rfl, rfl, rfl, zl10r9⟩ (show n - (z + 1) < n - z from zl10r10)
     ·obtain ⟨hx36, hx37, hx38, hx39, hx40⟩ := BsW.at (show BsW xs by with_reducible assumption) (i)
      refine y9r (.no :: .no :: .b true :: .no :: .no :: .no :: .n i :: .ds [iD (qbK xs i), dl (qbR xs i) (qbN xs i), D.sl (msD (qbM xs i)) (List.length (qbM xs i)), dl (qbS xs i) (qbT xs i)] :: .no :: .call [] (bV true) [] 0 [] none :: nz9 4 (.b false :: nz9 4 [.n i, .ds [iD (qbK xs i), dl (qbR xs i) (qbN xs i), D.sl (msD (qbM xs i)) (List.length (qbM xs i)), dl (qbS xs i) (qbT xs i)], .call [] (bV false) [] 0 [] none, .no, .no, .no])) ((((z : Int) ≠ (i : Int))) ∧ (q9i (i : Int)) ∧ (i < n) ∧ (List.take 4 (List.drop (i * 4) (bxD xs)) = [iD (qbK xs i), dl (qbR xs i) (qbN xs i), D.sl (msD (qbM xs i)) (List.length (qbM xs i)), dl (qbS xs i) (qbT xs i)]) ∧ (([iD (qbK xs i), dl (qbR xs i) (qbN xs i), D.sl (msD (qbM xs i)) (List.length (qbM xs i)), dl (qbS xs i) (qbT xs i)] : List D).length = 4) ∧ (Fun 80 [.agg [iC (qbK xs i), .d (dl (qbR xs i) (qbN xs i)), .d (D.sl (msD (qbM xs i)) (List.length (qbM xs i))), .d (dl (qbS xs i) (qbT xs i))], .agg [iC (qbK xs z), .d (dl (qbR xs z) (qbN xs z)), .d (D.sl (msD (qbM xs z)) (List.length (qbM xs z))), .d (dl (qbS xs z) (qbT xs z))]] (toG []) 0 (bV true) (toG []) 0) ∧ (¬ ((z : Int) < (i : Int))) ∧ (q9i (i : Int)) ∧ (i < n) ∧ (List.take 4 (List.drop (i * 4) (bxD xs)) = [iD (qbK xs i), dl (qbR xs i) (qbN xs i), D.sl (msD (qbM xs i)) (List.length (qbM xs i)), dl (qbS xs i) (qbT xs i)]) ∧ (([iD (qbK xs i), dl (qbR xs i) (qbN xs i), D.sl (msD (qbM xs i)) (List.length (qbM xs i)), dl (qbS xs i) (qbT xs i)] : List D).length = 4) ∧ (Fun 80 [.agg [iC (qbK xs z), .d (dl (qbR xs z) (qbN xs z)), .d (D.sl (msD (qbM xs z)) (List.length (qbM xs z))), .d (dl (qbS xs z) (qbT xs z))], .agg [iC (qbK xs i), .d (dl (qbR xs i) (qbN xs i)), .d (D.sl (msD (qbM xs i)) (List.length (qbM xs i))), .d (dl (qbS xs i) (qbT xs i))]] (toG []) 0 (bV false) (toG []) 0)) [(0, .e (.c (.d (D.sl (bxD xs) n)))), (1, uV i), (7, .e (.c (.d (D.sl (bxD xs) n)))), (8, uV n), (9, uV z), (38, bV true)] [] 1 ⟨zo, rfl, zo, (bx_at zl10r4), rfl, (by have h0 := (R_in (qbK xs i) (qbR xs i) (qbN xs i) (qbM xs i) (List.length (qbM xs i)) (qbS xs i) (qbT xs i) (qbK xs z) (qbR xs z) (qbN xs z) (qbM xs z) (List.length (qbM xs z)) (qbS xs z) (qbT xs z) zl10r2 zl10r2 rfl zl10r2 zl10r2 zl10r2 (BsW.ms (show BsW xs by with_reducible assumption) _) zl10r2 zl10r2 rfl zl10r2 zl10r2 zl10r2 (BsW.ms (show BsW xs by with_reducible assumption) _)); rw [hx13] at h0; exact h0), zo, rfl, zo, (bx_at zl10r4), rfl, (by have h0 := (R_in (qbK xs z) (qbR xs z) (qbN xs z) (qbM xs z) (List.length (qbM xs z)) (qbS xs z) (qbT xs z) (qbK xs i) (qbR xs i) (qbN xs i) (qbM xs i) (List.length (qbM xs i)) (qbS xs i) (qbT xs i) zl10r2 zl10r2 rfl zl10r2 zl10r2 zl10r2 (BsW.ms (show BsW xs by with_reducible assumption) _) zl10r2 zl10r2 rfl zl10r2 zl10r2 zl10r2 (BsW.ms (show BsW xs by with_reducible assumption) _)); rw [hx30] at h0; exact h0)⟩ ?_
      refine zt ?_
      refine y9s [.no] True [(4, bV true)] trivial ?_
      refine AW.ret ?_
      exact EndP.of (.inr rfl) [] (P := ((goB xs i) = true)) zk (by first | exact go_t (j := z) zo zl10r6 | exact go_f (fun j hj => ha j zo))
   ·obtain ⟨hx41, hx42, hx43, hx44, hx45⟩ := BsW.at (show BsW xs by with_reducible assumption) (i)
    refine y9r [.no, .no, .b true, .no, .no, .no, .n i, .ds [iD (qbK xs i), dl (qbR xs i) (qbN xs i), D.sl (msD (qbM xs i)) (List.length (qbM xs i)), dl (qbS xs i) (qbT xs i)], .no, .call [] (bV false) [] 0 [] none, .no, .no, .no] ((((z : Int) ≠ (i : Int))) ∧ (q9i (i : Int)) ∧ (i < n) ∧ (List.take 4 (List.drop (i * 4) (bxD xs)) = [iD (qbK xs i), dl (qbR xs i) (qbN xs i), D.sl (msD (qbM xs i)) (List.length (qbM xs i)), dl (qbS xs i) (qbT xs i)]) ∧ (([iD (qbK xs i), dl (qbR xs i) (qbN xs i), D.sl (msD (qbM xs i)) (List.length (qbM xs i)), dl (qbS xs i) (qbT xs i)] : List D).length = 4) ∧ (Fun 80 [.agg [iC (qbK xs i), .d (dl (qbR xs i) (qbN xs i)), .d (D.sl (msD (qbM xs i)) (List.length (qbM xs i))), .d (dl (qbS xs i) (qbT xs i))], .agg [iC (qbK xs z), .d (dl (qbR xs z) (qbN xs z)), .d (D.sl (msD (qbM xs z)) (List.length (qbM xs z))), .d (dl (qbS xs z) (qbT xs z))]] (toG []) 0 (bV false) (toG []) 0)) [(0, .e (.c (.d (D.sl (bxD xs) n)))), (1, uV i), (7, .e (.c (.d (D.sl (bxD xs) n)))), (8, uV n), (9, uV z), (38, bV false)] [] 1 ⟨zo, rfl, zo, (bx_at zl10r4), rfl, (by have h0 := (R_in (qbK xs i) (qbR xs i) (qbN xs i) (qbM xs i) (List.length (qbM xs i)) (qbS xs i) (qbT xs i) (qbK xs z) (qbR xs z) (qbN xs z) (qbM xs z) (List.length (qbM xs z)) (qbS xs z) (qbT xs z) zl10r2 zl10r2 rfl zl10r2 zl10r2 zl10r2 (BsW.ms (show BsW xs by with_reducible assumption) _) zl10r2 zl10r2 rfl zl10r2 zl10r2 zl10r2 (BsW.ms (show BsW xs by with_reducible assumption) _)); rw [hx13] at h0; exact h0)⟩ ?_
    refine zfs ?_
    refine y9h [.w, .no] ((-9223372036854775808) ≤ ((z : Int) + 1) ∧ ((z : Int) + 1) ≤ 9223372036854775807) [(0, .e (.c (.d (D.sl (bxD xs) n)))), (1, uV i), (7, .e (.c (.d (D.sl (bxD xs) n)))), (8, uV n), (9, iV (↑z + 1))] ⟨by omega, by omega⟩ ?_
    exact Rd.of ⟨((z + 1) : Nat), ⟨zl10r11, (fun j hj => (Nat.lt_succ_iff_lt_or_eq.1 hj).elim (ha j) (fun e9 => by subst e9; first | exact ge_s zo | exact ge_i (by assumption) | exact ge_b (by assumption) zo))⟩⟩ [] (P := (q9d (bxD xs)) ∧ (q9n n) ∧ (q9i (i : Int)) ∧ (q9d (bxD xs)) ∧ (q9n n) ∧ (q9i (n : Int)) ∧ (((((z + 1) : Nat) : Int) : Int) = ((z : Int) + 1))) zk ⟨rfl, rfl, rfl, rfl, rfl, rfl, zl10r9⟩ (show n - (z + 1) < n - z from zl10r10)
  ·refine y9r (.no :: .no :: .b false :: nz9 4 []) (¬ ((z : Int) ≠ (i : Int))) [(0, .e (.c (.d (D.sl (bxD xs) n)))), (1, uV i), (7, .e (.c (.d (D.sl (bxD xs) n)))), (8, uV n), (9, uV z), (38, bV false)] [] 1 zo ?_
   refine zfs ?_
   refine y9h [.w, .no] ((-9223372036854775808) ≤ ((z : Int) + 1) ∧ ((z : Int) + 1) ≤ 9223372036854775807) [(0, .e (.c (.d (D.sl (bxD xs) n)))), (1, uV i), (7, .e (.c (.d (D.sl (bxD xs) n)))), (8, uV n), (9, iV (↑z + 1))] ⟨by omega, by omega⟩ ?_
   exact Rd.of ⟨((z + 1) : Nat), ⟨zl10r11, (fun j hj => (Nat.lt_succ_iff_lt_or_eq.1 hj).elim (ha j) (fun e9 => by subst e9; first | exact ge_s zo | exact ge_i (by assumption) | exact ge_b (by assumption) zo))⟩⟩ [] (P := (q9d (bxD xs)) ∧ (q9n n) ∧ (q9i (i : Int)) ∧ (q9d (bxD xs)) ∧ (q9n n) ∧ (q9i (n : Int)) ∧ (((((z + 1) : Nat) : Int) : Int) = ((z : Int) + 1))) zk ⟨rfl, rfl, rfl, rfl, rfl, rfl, zl10r9⟩ (show n - (z + 1) < n - z from zl10r10)
 ·refine y9r [.b false] (¬ ((z : Int) < (n : Int))) [(0, .e (.c (.d (D.sl (bxD xs) n)))), (1, uV i), (7, .e (.c (.d (D.sl (bxD xs) n)))), (8, uV n), (9, uV z), (10, bV false)] [] 0 zo ?_
  refine AW.seq ?_
  refine zf ?_
  refine AW.exit ?_
  refine y9r [.no] True [(4, bV false)] [] 0 trivial ?_
  refine AW.ret ?_
  exact EndP.of (.inr rfl) [] (P := ((goB xs i) = false)) zk (by first | exact go_t (j := z) zo zl10r6 | exact go_f (fun j hj => ha j zo))
theorem zl10r0 {p : Prop} (h : p := by rw [List.drop_zero, List.take_of_length_le (by first | omega | (simp only [msD_len, bxD_len, dI_len, List.length_append, List.length_cons, List.length_nil, List.length_take, List.length_drop, List.length_replicate, List.length_set, List.length_map, List.length_reverse, Nat.mul_one] <;> omega))]) : p := h
theorem zl10r1 {p : Prop} (h : p := by first | omega | (simp only [msD_len, bxD_len, dI_len, List.length_append, List.length_cons, List.length_nil, List.length_take, List.length_drop, List.length_replicate, List.length_set, List.length_map, List.length_reverse, Nat.mul_one] <;> omega) | rfl) : p := h
theorem R_fset (l : List Int) (n : Nat) (hl : List.length l = n * 2) (hb : n ≤ 1000000) : Fun 81 [.agg [.d (D.sl (dI .i64 l) n)]] (toG []) 0 (.e (.agg [.d (D.sl (dI .i64 l) n)])) (toG []) 0 := by
 refine Fun.mk (n := 7) Tryz.func81 rfl rfl (Nat.le_of_ble_eq_true rfl) ?_
 intro cx hcx
 refine y9r [.no, .no] True [(1, rV 0 0), (2, rV 1 0)] [(0, some (56, .ds [dl l n])), (1, some (56, .ds [nl9]))] 2 trivial ?_
 refine y9r [.no, .no, .call [] (oV 0 0 n 2) [(0, some (77, .ds (dI .i64 l)))] 1 [] none, .no, .no] _ [(2, rV 1 0)] [(1, some (56, .cs [.own 2 0 n 2 true])), (2, some (77, .ds (dI .i64 l)))] 3 (U_Clone l n zo zo) ?_
 refine AW.freeze 2 (l' := [(2, rV 1 0)]) (g' := [(1, some (56, .ds [dl l n]))]) rfl (FzS.cons rfl (.same _) FzS.nil) (FzG.to (bc := .cs [.own 2 0 n 2 true]) rfl (by rfl) (FzL.cons (@FzC.own 2 ((dI .i64 l) : List D) 0 n 2 true ((dI .i64 l) : List D) zl10r0 zl10r1) FzL.nil) FzG.nil) ?_
 refine AW.ret ?_
 exact EndP.of (.inr rfl) [] (P := (q9d (dI .i64 l)) ∧ (q9n n)) zk ⟨rfl, rfl⟩
theorem R_flist (m : List (List Int)) (c : Nat) (hc : List.length m = c) (h3 : c ≤ 1000000) (hW : MsW m) : Fun 82 [.c (.d (D.sl (msD m) c)), .c (.fn 56 [])] (toG []) 0 (.e (.c (.d (D.sl (msD m) c)))) (toG []) 0 := by
 refine Fun.mk (n := 22) Tryz.func82 rfl rfl (Nat.le_of_ble_eq_true rfl) ?_
 intro cx hcx
 refine y9r [.no] True [(0, .e (.c (.d (D.sl (msD m) c)))), (1, .e (.c (.fn 56 [])))] [] 0 trivial ?_
 refine y9s [.no] True [(0, .e (.c (.d (D.sl (msD m) c)))), (1, .e (.c (.fn 56 []))), (5, nV)] trivial ?_
 refine AW.seq ?_
 refine y9s [.no, .no, .no] True [(1, .e (.c (.fn 56 []))), (5, nV), (8, .e (.c (.d (D.sl (msD m) c)))), (9, uV c), (10, iV 0)] trivial ?_
 refine AW.block ?_
 refine AW.adoptS 5 1 23 rfl ?_
 refine AW.loopE 0 hcx (fun (x : {x : Nat // match x with | z => (z ≤ c)}) => match x with | ⟨z, _⟩ => (⟨[(1, .e (.c (.fn 56 []))), (5, oV 1 0 z 1), (8, .e (.c (.d (D.sl (msD m) c)))), (9, uV c), (10, uV z)], [(1, some (23, .ds (msD (List.take z m))))], 2⟩ : ES)) (fun x => match x with | ⟨z, _⟩ => c - z) ⟨(0 : Nat), (show ((0 : Nat) ≤ c) from zl10r11)⟩ [(1, 0)] (P := (q9n 0) ∧ (q9n 0) ∧ (q9d (msD m)) ∧ (q9n c) ∧ (q9i (c : Int)) ∧ (q9i 0) ∧ (((msD (List.take 0 m)) : List D) = ([] : List D))) zk ⟨rfl, rfl, rfl, rfl, rfl, rfl, (by first | rfl | with_reducible assumption | (exact (congrArg msD (List.take_succ_eq_append_getD zo))) | (rw [mt_take (by omega)]))⟩ ?_
 rintro ⟨z, hinv0⟩
 have hz : (z ≤ c) := hinv0
 refine AW.es (l := [(1, .e (.c (.fn 56 []))), (5, oV 1 0 z 1), (8, .e (.c (.d (D.sl (msD m) c)))), (9, uV c), (10, uV z)]) (g := [(1, some (23, .ds (msD (List.take z m))))]) (nx := 2) rfl rfl rfl ?_
 by_cases hx1 : (((z : Nat) : Int) < ((c : Nat) : Int))
 ·refine y9r [.b true] (((z : Int) < (c : Int))) [(1, .e (.c (.fn 56 []))), (5, oV 1 0 z 1), (8, .e (.c (.d (D.sl (msD m) c)))), (9, uV c), (10, uV z), (11, bV true)] [(1, some (23, .ds (msD (List.take z m))))] 2 zo ?_
  refine AW.seq ?_
  refine zts ?_
  refine AW.seq ?_
  refine AW.block ?_
  have hx2 : ((List.length (List.getD m z ([] : List Int))) ≤ 1000000) := MsW.at (show MsW m by with_reducible assumption) _
  refine y9s [.n z, .d (dl (List.getD m z ([] : List Int)) (List.length (List.getD m z ([] : List Int)))), .no] ((q9i (z : Int)) ∧ (z < c) ∧ ((List.drop z (msD m))[0]? = some (dl (List.getD m z ([] : List Int)) (List.length (List.getD m z ([] : List Int)))))) [(1, .e (.c (.fn 56 []))), (5, oV 1 0 z 1), (7, sV .i64 (List.getD m z ([] : List Int)) (List.length (List.getD m z ([] : List Int)))), (8, .e (.c (.d (D.sl (msD m) c)))), (9, uV c), (10, uV z)] ⟨rfl, zo, (msD_at _ _ zl10r4)⟩ ?_
  refine y9g [.no, .no, .no, (.fz (.call [] (oV 0 0 (List.length (List.getD m z ([] : List Int))) 1) [(0, some (3, .ds (dI .i64 (List.getD m z ([] : List Int)))))] 1 [] none)), .no, .ap none (z + 1) (msD ((List.take z m) ++ ([(List.getD m z ([] : List Int))] : List (List Int)))), .no] ((_) ∧ (((dI .i64 (List.getD m z ([] : List Int))) : List D).length = (List.length (List.getD m z ([] : List Int))) * 1) ∧ ([dl (List.getD m z ([] : List Int)) (List.length (List.getD m z ([] : List Int)))].length = 1 * 1) ∧ (((msD (List.take z m)) : List D).length = z * 1) ∧ ((z + 1) * 24 ≤ 140737488355328) ∧ (z + 1 = (z + 1)) ∧ (((msD (List.take z m)) : List D) ++ [dl (List.getD m z ([] : List Int)) (List.length (List.getD m z ([] : List Int)))] = (msD ((List.take z m) ++ ([(List.getD m z ([] : List Int))] : List (List Int)))))) [(1, .e (.c (.fn 56 []))), (5, oV 4 0 (z + 1) 1), (8, .e (.c (.d (D.sl (msD m) c)))), (9, uV c), (10, uV z)] [(4, some (23, .ds (msD ((List.take z m) ++ ([(List.getD m z ([] : List Int))] : List (List Int))))))] 5 ⟨(C_Clone_i64 (List.getD m z ([] : List Int)) (List.length (List.getD m z ([] : List Int))) rfl zl10r2), zl10r1, zl10r1, zl10r1, zo, zo, (msD_cat (List.take z m) (List.getD m z ([] : List Int)) (List.length (List.getD m z ([] : List Int))) (by first | rfl | omega))⟩ ?_
  refine y9h [.w, .no] ((-9223372036854775808) ≤ ((z : Int) + 1) ∧ ((z : Int) + 1) ≤ 9223372036854775807) [(1, .e (.c (.fn 56 []))), (5, oV 4 0 (z + 1) 1), (8, .e (.c (.d (D.sl (msD m) c)))), (9, uV c), (10, iV (↑z + 1))] ⟨by omega, by omega⟩ ?_
  exact Rd.of ⟨((z + 1) : Nat), (show ((z + 1) ≤ c) from zl10r11)⟩ [(1, 4)] (P := (q9n 0) ∧ (q9n (z + 1)) ∧ (q9d (msD m)) ∧ (q9n c) ∧ (q9i (c : Int)) ∧ (((((z + 1) : Nat) : Int) : Int) = ((z : Int) + 1)) ∧ (((msD (List.take (z + 1) m)) : List D) = (msD ((List.take z m) ++ ([(List.getD m z ([] : List Int))] : List (List Int)))))) zk ⟨rfl, rfl, rfl, rfl, rfl, zl10r9, (by first | rfl | with_reducible assumption | (exact (congrArg msD (List.take_succ_eq_append_getD zo))) | (rw [mt_take (by omega)]))⟩ (show c - (z + 1) < c - z from zl10r10)
 ·refine y9r [.b false] (¬ ((z : Int) < (c : Int))) [(1, .e (.c (.fn 56 []))), (5, oV 1 0 z 1), (8, .e (.c (.d (D.sl (msD m) c)))), (9, uV c), (10, uV z), (11, bV false)] [(1, some (23, .ds (msD (List.take z m))))] 2 zo ?_
  refine AW.seq ?_
  refine zf ?_
  refine AW.exit ?_
  refine y9r [.no, .no] True [(4, oV 1 0 z 1)] [(1, some (23, .ds (msD (List.take z m))))] 2 trivial ?_
  refine AW.freeze 1 (l' := [(4, .e (.c (.d (D.sl (msD (List.take z m)) z))))]) (g' := []) rfl (FzS.cons rfl (.e (.c (@FzC.own 1 ((msD (List.take z m)) : List D) 0 z 1 true ((msD (List.take z m)) : List D) (by rw [List.drop_zero, Nat.mul_one, List.take_of_length_le (by first | omega | (simp only [msD_len, bxD_len, dI_len, List.length_append, List.length_cons, List.length_nil, List.length_take, List.length_drop, List.length_replicate, List.length_set, List.length_map, List.length_reverse, Nat.mul_one] <;> omega))]) zl10r1))) FzS.nil) FzG.nil ?_
  have hz1 : List.take z m = m := List.take_of_length_le (by omega)
  refine AW.ret ?_
  exact EndP.of (.inr rfl) [] (P := (((msD m) : List D) = (msD (List.take z m))) ∧ ((c : Nat) = z)) zk ⟨(by first | rfl | (rw [hz1]; done) | (rw [hz1]; rfl)), (by first | rfl | omega)⟩
abbrev t0R9_0 : BC := .ds [iD 0, D.lit (.slice none 0 0), D.lit (.slice none 0 0), D.lit (.slice none 0 0)]
theorem R_fbox (k : Int) (r : List Int) (rn : Nat) (m : List (List Int)) (c : Nat) (s : List Int) (sn : Nat) (hr : List.length r = rn * 2) (hs : List.length s = sn * 2) (hc : List.length m = c) (h1 : rn ≤ 1000000) (h2 : sn ≤ 1000000) (h3 : c ≤ 1000000) (hW : MsW m) : Fun 40 [.agg [iC k, .d (D.sl (dI .i64 r) rn), .d (D.sl (msD m) c), .d (D.sl (dI .i64 s) sn)]] (toG []) 0 (.e (.agg [iC k, .d (D.sl (dI .i64 r) rn), .d (D.sl (msD m) c), .d (D.sl (dI .i64 s) sn)])) (toG []) 0 := by
 refine Fun.mk (n := 16) Tryz.func40 rfl rfl (Nat.le_of_ble_eq_true rfl) ?_
 intro cx hcx
 refine y9r [.no, .no] True [(1, rV 0 0), (2, rV 1 0)] [(0, some (59, .ds [iD k, dl r rn, D.sl (msD m) c, dl s sn])), (1, some (59, t0R9_0))] 2 trivial ?_
 refine y9s [.no, .no, .call [] (.e (.agg [.d (dl r rn)])) [] 0 [] none, .no, .no] _ [(1, rV 0 0), (2, rV 1 0)] (R_fset r rn zo zo) ?_
 refine y9s [.no, .no, .call [] (.e (.c (.d (D.sl (msD m) c)))) [] 0 [] none, .no, .no] _ [(1, rV 0 0), (2, rV 1 0)] (R_flist m c zo zo (show MsW m by with_reducible assumption)) ?_
 refine y9s [.no, .no, .call [] (.e (.agg [.d (dl s sn)])) [] 0 [] none, .no, .no] _ [(1, rV 0 0), (2, rV 1 0)] (R_fset s sn zo zo) ?_
 refine y9r [.no, .no] True [(2, rV 1 0)] [(1, some (59, .ds [iD k, dl r rn, D.sl (msD m) c, dl s sn]))] 2 trivial ?_
 refine AW.ret ?_
 exact EndP.of (.inr rfl) [] (P := (q9i k) ∧ (q9d (dI .i64 r)) ∧ (q9n rn) ∧ (q9d (msD m)) ∧ (q9n c) ∧ (q9d (dI .i64 s)) ∧ (q9n sn)) zk ⟨rfl, rfl, rfl, rfl, rfl, rfl, rfl⟩
abbrev t0R10_0 (xs : List Bx) (i : Nat) : BC := .ds [iD (qbK xs i), D.sl (dI .i64 (qbR xs i)) (qbN xs i), D.sl (msD (qbM xs i)) (List.length (qbM xs i)), D.sl (dI .i64 (qbS xs i)) (qbT xs i)]
theorem R_red (xs : List Bx) (n : Nat) (hn : List.length xs = n) (h1 : n ≤ 1000000) (hW : BsW xs) : Fun 14 [.c (.d (D.sl (bxD xs) n))] (toG []) 0 (.tup [.c (.d (D.sl (bxD (rdR xs)) (List.length (rdR xs)))), iE (rdE xs)]) (toG []) 0 := by
 refine Fun.mk (n := 28) Tryz.func14 rfl rfl (Nat.le_of_ble_eq_true rfl) ?_
 intro cx hcx
 refine y9r [.no, .no] True [(0, .e (.c (.d (D.sl (bxD xs) n))))] [] 0 trivial ?_
 refine AW.seq ?_
 rcases Bool.eq_false_or_eq_true (vbB xs) with hx1 | hx1
 ·refine y9s [.no, .call [] (bV true) [] 0 [] none, .no] (Fun 18 [.c (.d (D.sl (bxD xs) n))] (toG []) 0 (bV true) (toG []) 0) [(0, .e (.c (.d (D.sl (bxD xs) n)))), (9, bV false)] (by have h0 := (M_Valid xs n zo zo (show BsW xs by with_reducible assumption)); rw [hx1] at h0; exact h0) ?_
  refine zfs ?_
  refine y9s [.no] True [(0, .e (.c (.d (D.sl (bxD xs) n)))), (4, nV)] trivial ?_
  refine AW.seq ?_
  refine y9s [.no, .no, .no] True [(0, .e (.c (.d (D.sl (bxD xs) n)))), (4, nV), (10, .e (.c (.d (D.sl (bxD xs) n)))), (11, uV n), (12, iV 0)] trivial ?_
  refine AW.block ?_
  refine AW.adoptS 4 4 59 rfl ?_
  refine AW.loopE 0 hcx (fun (x : {x : Nat × Nat × List Bx // match x with | (i, q, o) => (i ≤ n ∧ q ≤ i) ∧ (rdS xs i = o) ∧ (List.length o = q)}) => match x with | ⟨(i, q, o), _⟩ => (⟨[(0, .e (.c (.d (D.sl (bxD xs) n)))), (4, oV 1 0 q 4), (10, .e (.c (.d (D.sl (bxD xs) n)))), (11, uV n), (12, uV i)], [(1, some (59, .ds (bxD o)))], 2⟩ : ES)) (fun x => match x with | ⟨(i, q, o), _⟩ => n - i) ⟨((0 : Nat), (0 : Nat), (([] : List Bx) : List Bx)), ⟨zl10r11, rfl, rfl⟩⟩ [(1, 0)] (P := (q9d (bxD xs)) ∧ (q9n n) ∧ (q9n 0) ∧ (q9n 0) ∧ (q9d (bxD xs)) ∧ (q9n n) ∧ (q9i (n : Int)) ∧ (q9i 0) ∧ (((bxD ([] : List Bx)) : List D) = ([] : List D))) zk ⟨rfl, rfl, rfl, rfl, rfl, rfl, rfl, rfl, (by first | rfl | with_reducible assumption)⟩ ?_
  rintro ⟨⟨i, q, o⟩, hinv0⟩
  obtain ⟨hi, ho, hq⟩ : (i ≤ n ∧ q ≤ i) ∧ (rdS xs i = o) ∧ (List.length o = q) := hinv0
  refine AW.es (l := [(0, .e (.c (.d (D.sl (bxD xs) n)))), (4, oV 1 0 q 4), (10, .e (.c (.d (D.sl (bxD xs) n)))), (11, uV n), (12, uV i)]) (g := [(1, some (59, .ds (bxD o)))]) (nx := 2) rfl rfl rfl ?_
  by_cases hx2 : (((i : Nat) : Int) < ((n : Nat) : Int))
  ·refine y9r [.b true] (((i : Int) < (n : Int))) [(0, .e (.c (.d (D.sl (bxD xs) n)))), (4, oV 1 0 q 4), (10, .e (.c (.d (D.sl (bxD xs) n)))), (11, uV n), (12, uV i), (13, bV true)] [(1, some (59, .ds (bxD o)))] 2 zo ?_
   refine AW.seq ?_
   refine zts ?_
   refine AW.seq ?_
   refine AW.block ?_
   obtain ⟨hx3, hx4, hx5, hx6, hx7⟩ := BsW.at (show BsW xs by with_reducible assumption) (i)
   refine y9r [.no, .n i, .ds [iD (qbK xs i), dl (qbR xs i) (qbN xs i), D.sl (msD (qbM xs i)) (List.length (qbM xs i)), dl (qbS xs i) (qbT xs i)], .no, .no, .no] ((q9i (i : Int)) ∧ (i < n) ∧ (List.take 4 (List.drop (i * 4) (bxD xs)) = [iD (qbK xs i), dl (qbR xs i) (qbN xs i), D.sl (msD (qbM xs i)) (List.length (qbM xs i)), dl (qbS xs i) (qbT xs i)]) ∧ (([iD (qbK xs i), dl (qbR xs i) (qbN xs i), D.sl (msD (qbM xs i)) (List.length (qbM xs i)), dl (qbS xs i) (qbT xs i)] : List D).length = 4)) [(0, .e (.c (.d (D.sl (bxD xs) n)))), (4, oV 1 0 q 4), (5, uV i), (6, rV 2 0), (10, .e (.c (.d (D.sl (bxD xs) n)))), (11, uV n), (12, uV i)] [(1, some (59, .ds (bxD o))), (2, some (59, (t0R10_0 xs i)))] 3 ⟨rfl, zo, (bx_at zl10r4), rfl⟩ ?_
   rcases Bool.eq_false_or_eq_true (goB xs i) with hx8 | hx8
   ·refine y9s [.no, .no, .call [] (bV true) [] 0 [] none, .no] (Fun 39 [.c (.d (D.sl (bxD xs) n)), uE i] (toG []) 0 (bV true) (toG []) 0) [(0, .e (.c (.d (D.sl (bxD xs) n)))), (4, oV 1 0 q 4), (6, rV 2 0), (10, .e (.c (.d (D.sl (bxD xs) n)))), (11, uV n), (12, uV i), (20, bV false)] (by have h0 := (R_goes xs n i zo zo (show BsW xs by with_reducible assumption) zo); rw [hx8] at h0; exact h0) ?_
    refine zfs ?_
    refine y9g [.w, .no] ((-9223372036854775808) ≤ ((i : Int) + 1) ∧ ((i : Int) + 1) ≤ 9223372036854775807) [(0, .e (.c (.d (D.sl (bxD xs) n)))), (4, oV 1 0 q 4), (10, .e (.c (.d (D.sl (bxD xs) n)))), (11, uV n), (12, iV (↑i + 1))] [(1, some (59, .ds (bxD o)))] 3 ⟨by omega, by omega⟩ ?_
    exact Rd.of ⟨(((i + 1) : Nat), (q : Nat), (o : List Bx)), ⟨zl10r11, (by first | exact rd_y ho (by assumption) | exact rd_n ho (by assumption)), (by first | omega | (simp only [msD_len, bxD_len, List.length_append, List.length_cons, List.length_nil] <;> omega))⟩⟩ [] (P := (q9d (bxD xs)) ∧ (q9n n) ∧ (q9n 0) ∧ (q9n q) ∧ (q9d (bxD xs)) ∧ (q9n n) ∧ (q9i (n : Int)) ∧ (((((i + 1) : Nat) : Int) : Int) = ((i : Int) + 1)) ∧ (q9d (bxD o))) zk ⟨rfl, rfl, rfl, rfl, rfl, rfl, rfl, zl10r9, rfl⟩ (show n - (i + 1) < n - i from zl10r10)
   ·refine y9s [.no, .no, .call [] (bV false) [] 0 [] none, .no] (Fun 39 [.c (.d (D.sl (bxD xs) n)), uE i] (toG []) 0 (bV false) (toG []) 0) [(0, .e (.c (.d (D.sl (bxD xs) n)))), (4, oV 1 0 q 4), (6, rV 2 0), (10, .e (.c (.d (D.sl (bxD xs) n)))), (11, uV n), (12, uV i), (20, bV true)] (by have h0 := (R_goes xs n i zo zo (show BsW xs by with_reducible assumption) zo); rw [hx8] at h0; exact h0) ?_
    refine zt ?_
    refine y9g [.no, .no, .call [] (.e (.agg [iC (qbK xs i), .d (dl (qbR xs i) (qbN xs i)), .d (D.sl (msD (qbM xs i)) (List.length (qbM xs i))), .d (dl (qbS xs i) (qbT xs i))])) [] 0 [] none, .no, .ap none (q + 1) (bxD (o ++ ([(mkBx (qbK xs i) (qbR xs i) (qbN xs i) (qbM xs i) (qbS xs i) (qbT xs i))] : List Bx))), .no] ((_) ∧ ([iD (qbK xs i), dl (qbR xs i) (qbN xs i), D.sl (msD (qbM xs i)) (List.length (qbM xs i)), dl (qbS xs i) (qbT xs i)].length = 1 * 4) ∧ (((bxD o) : List D).length = q * 4) ∧ ((q + 1) * 80 ≤ 140737488355328) ∧ (q + 1 = (q + 1)) ∧ (((bxD o) : List D) ++ [iD (qbK xs i), dl (qbR xs i) (qbN xs i), D.sl (msD (qbM xs i)) (List.length (qbM xs i)), dl (qbS xs i) (qbT xs i)] = (bxD (o ++ ([(mkBx (qbK xs i) (qbR xs i) (qbN xs i) (qbM xs i) (qbS xs i) (qbT xs i))] : List Bx))))) [(0, .e (.c (.d (D.sl (bxD xs) n)))), (4, oV 4 0 (q + 1) 4), (10, .e (.c (.d (D.sl (bxD xs) n)))), (11, uV n), (12, uV i)] [(4, some (59, .ds (bxD (o ++ ([(mkBx (qbK xs i) (qbR xs i) (qbN xs i) (qbM xs i) (qbS xs i) (qbT xs i))] : List Bx)))))] 5 ⟨(R_fbox (qbK xs i) (qbR xs i) (qbN xs i) (qbM xs i) (List.length (qbM xs i)) (qbS xs i) (qbT xs i) zl10r2 zl10r2 rfl zl10r2 zl10r2 zl10r2 (BsW.ms (show BsW xs by with_reducible assumption) _)), zl10r1, zl10r1, zo, zo, (bxD_cat o (qbK xs i) (qbR xs i) (qbN xs i) (qbM xs i) (List.length (qbM xs i)) (qbS xs i) (qbT xs i) (by first | rfl | omega))⟩ ?_
    refine y9h [.w, .no] ((-9223372036854775808) ≤ ((i : Int) + 1) ∧ ((i : Int) + 1) ≤ 9223372036854775807) [(0, .e (.c (.d (D.sl (bxD xs) n)))), (4, oV 4 0 (q + 1) 4), (10, .e (.c (.d (D.sl (bxD xs) n)))), (11, uV n), (12, iV (↑i + 1))] ⟨by omega, by omega⟩ ?_
    exact Rd.of ⟨(((i + 1) : Nat), ((q + 1) : Nat), ((o ++ ([(mkBx (qbK xs i) (qbR xs i) (qbN xs i) (qbM xs i) (qbS xs i) (qbT xs i))] : List Bx)) : List Bx)), ⟨zl10r11, (by first | exact rd_y ho (by assumption) | exact rd_n ho (by assumption)), (by first | omega | (simp only [msD_len, bxD_len, List.length_append, List.length_cons, List.length_nil] <;> omega))⟩⟩ [(1, 4)] (P := (q9d (bxD xs)) ∧ (q9n n) ∧ (q9n 0) ∧ (q9n (q + 1)) ∧ (q9d (bxD xs)) ∧ (q9n n) ∧ (q9i (n : Int)) ∧ (((((i + 1) : Nat) : Int) : Int) = ((i : Int) + 1)) ∧ (q9d (bxD (o ++ ([(mkBx (qbK xs i) (qbR xs i) (qbN xs i) (qbM xs i) (qbS xs i) (qbT xs i))] : List Bx))))) zk ⟨rfl, rfl, rfl, rfl, rfl, rfl, rfl, zl10r9, rfl⟩ (show n - (i + 1) < n - i from zl10r10)
  ·refine y9r [.b false] (¬ ((i : Int) < (n : Int))) [(0, .e (.c (.d (D.sl (bxD xs) n)))), (4, oV 1 0 q 4), (10, .e (.c (.d (D.sl (bxD xs) n)))), (11, uV n), (12, uV i), (13, bV false)] [(1, some (59, .ds (bxD o)))] 2 zo ?_
   refine AW.seq ?_
   refine zf ?_
   refine AW.exit ?_
   refine y9r [.no, .no, .no] True [(2, oV 1 0 q 4), (3, iV 0)] [(1, some (59, .ds (bxD o)))] 2 trivial ?_
   refine AW.freeze 1 (l' := [(2, .e (.c (.d (D.sl (bxD o) q)))), (3, iV 0)]) (g' := []) rfl (FzS.cons rfl (.e (.c (@FzC.own 1 ((bxD o) : List D) 0 q 4 true ((bxD o) : List D) zl10r0 zl10r1))) (FzS.cons rfl (.same _) FzS.nil)) FzG.nil ?_
   obtain ⟨hz1, hz2⟩ := rdR_y hx1
   have hz3 : rdS xs (List.length xs) = o := by have h9 := ho; rw [show i = List.length xs by omega] at h9; exact h9
   refine AW.ret ?_
   exact EndP.of (.inr rfl) [] (P := (((bxD (rdR xs)) : List D) = (bxD o)) ∧ (((List.length (rdR xs)) : Nat) = q) ∧ (((rdE xs) : Int) = 0)) zk ⟨(by first | rfl | (rw [hz1]; rfl) | (rw [hz1, hz3]; done) | (rw [hz1, hz3]; rfl) | (rw [hz1, hz3]; omega) | (rw [hz2]; done) | exact hz2 | omega), (by first | rfl | (rw [hz1]; rfl) | (rw [hz1, hz3]; done) | (rw [hz1, hz3]; rfl) | (rw [hz1, hz3]; omega) | (rw [hz2]; done) | exact hz2 | omega), (by first | rfl | (rw [hz1]; rfl) | (rw [hz1, hz3]; done) | (rw [hz1, hz3]; rfl) | (rw [hz1, hz3]; omega) | (rw [hz2]; done) | exact hz2 | omega)⟩
 ·refine y9s [.no, .call [] (bV false) [] 0 [] none, .no] (Fun 18 [.c (.d (D.sl (bxD xs) n))] (toG []) 0 (bV false) (toG []) 0) [(0, .e (.c (.d (D.sl (bxD xs) n)))), (9, bV true)] (by have h0 := (M_Valid xs n zo zo (show BsW xs by with_reducible assumption)); rw [hx1] at h0; exact h0) ?_
  refine zt ?_
  refine y9s [.no, .no] True [(2, nV), (3, iV 1)] trivial ?_
  obtain ⟨hz1, hz2⟩ := rdR_n hx1
  refine AW.rel (l' := [(2, .e (.c (.d (D.sl ([] : List D) 0)))), (3, iV 1)]) (g' := []) (NlS.cons rfl (.e (.c .nil)) (NlS.cons rfl (.same _) NlS.nil)) NlG.nil ?_
  refine AW.ret ?_
  exact EndP.of (.inr rfl) [] (P := (((bxD (rdR xs)) : List D) = ([] : List D)) ∧ (((List.length (rdR xs)) : Nat) = 0) ∧ (((rdE xs) : Int) = 1)) zk ⟨(by first | rfl | (rw [hz1]; rfl) | (rw [hz1, hz3]; done) | (rw [hz1, hz3]; rfl) | (rw [hz1, hz3]; omega) | (rw [hz2]; done) | exact hz2 | omega), (by first | rfl | (rw [hz1]; rfl) | (rw [hz1, hz3]; done) | (rw [hz1, hz3]; rfl) | (rw [hz1, hz3]; omega) | (rw [hz2]; done) | exact hz2 | omega), (by first | rfl | (rw [hz1]; rfl) | (rw [hz1, hz3]; done) | (rw [hz1, hz3]; rfl) | (rw [hz1, hz3]; omega) | (rw [hz2]; done) | exact hz2 | omega)⟩
theorem zl10r5 {p : Prop} (h : p := by first | assumption | omega | (simp only [msD_len, bxD_len, List.length_append, List.length_cons, List.length_nil] <;> omega)) : p := h
theorem R_above (l : List Int) (n : Nat) (v : Int) (hl : List.length l = n * 2) (hb : n ≤ 1000000) (hv : -1 ≤ v ∧ v ≤ 2147483647) : Fun 129 [.agg [.d (D.sl (dI .i64 l) n)], iE v] (toG []) 0 (.e (.agg [.d (D.sl (dI .i64 (avS l v n)) (avN l v n))])) (toG []) 0 := by
 refine Fun.mk (n := 33) Tryz.func129 rfl rfl (Nat.le_of_ble_eq_true rfl) ?_
 intro cx hcx
 refine y9r [.no, .no] True [(1, iV v), (2, rV 0 0), (4, rV 1 0)] [(0, some (56, .ds [dl l n])), (1, some (56, .ds [nl9]))] 2 trivial ?_
 refine y9s [.no] True [(1, iV v), (2, rV 0 0), (4, rV 1 0), (5, nV)] trivial ?_
 refine AW.seq ?_
 refine y9r (nz9 4 []) True [(1, iV v), (4, rV 1 0), (5, nV), (9, sV .i64 l n), (10, uV n), (11, iV 0)] [(1, some (56, .ds [nl9]))] 2 trivial ?_
 refine AW.block ?_
 refine AW.adoptS 5 2 77 rfl ?_
 refine AW.loopE 0 hcx (fun (x : {x : Nat × Nat × List Int // match x with | (k, q, o) => (k ≤ n ∧ q ≤ k) ∧ (avS l v k = o) ∧ (List.length o = q * 2)}) => match x with | ⟨(k, q, o), _⟩ => (⟨[(1, iV v), (4, rV 1 0), (5, oV 3 0 q 2), (9, sV .i64 l n), (10, uV n), (11, uV k)], [(1, some (56, .ds [nl9])), (3, some (77, .ds (dI .i64 o)))], 4⟩ : ES)) (fun x => match x with | ⟨(k, q, o), _⟩ => n - k) ⟨((0 : Nat), (0 : Nat), (([] : List Int) : List Int)), ⟨zl10r11, rfl, rfl⟩⟩ [(3, 2)] (P := (q9i v) ∧ (q9n 0) ∧ (q9n 0) ∧ (q9n 0) ∧ (q9d (dI .i64 l)) ∧ (q9n n) ∧ (q9i (n : Int)) ∧ (q9i 0) ∧ (q9d [nl9]) ∧ (((dI .i64 ([] : List Int)) : List D) = ([] : List D))) zk ⟨rfl, rfl, rfl, rfl, rfl, rfl, rfl, rfl, rfl, (by first | rfl | with_reducible assumption)⟩ ?_
 rintro ⟨⟨k, q, o⟩, hinv0⟩
 obtain ⟨hk, ho, hq⟩ : (k ≤ n ∧ q ≤ k) ∧ (avS l v k = o) ∧ (List.length o = q * 2) := hinv0
 refine AW.es (l := [(1, iV v), (4, rV 1 0), (5, oV 3 0 q 2), (9, sV .i64 l n), (10, uV n), (11, uV k)]) (g := [(1, some (56, .ds [nl9])), (3, some (77, .ds (dI .i64 o)))]) (nx := 4) rfl rfl rfl ?_
 by_cases hx1 : (((k : Nat) : Int) < ((n : Nat) : Int))
 ·refine y9r [.b true] (((k : Int) < (n : Int))) [(1, iV v), (4, rV 1 0), (5, oV 3 0 q 2), (9, sV .i64 l n), (10, uV n), (11, uV k), (12, bV true)] [(1, some (56, .ds [nl9])), (3, some (77, .ds (dI .i64 o)))] 4 zo ?_
  refine AW.seq ?_
  refine zts ?_
  refine AW.seq ?_
  refine AW.block ?_
  refine y9r [.n k, .ds [iD (List.getD l (k * 2) 0), iD (List.getD l ((k * 2) + 1) 0)], .no, .no] ((q9i (k : Int)) ∧ (k < n) ∧ (List.take 2 (List.drop (k * 2) (dI .i64 l)) = [iD (List.getD l (k * 2) 0), iD (List.getD l ((k * 2) + 1) 0)]) ∧ (([iD (List.getD l (k * 2) 0), iD (List.getD l ((k * 2) + 1) 0)] : List D).length = 2)) [(1, iV v), (4, rV 1 0), (5, oV 3 0 q 2), (7, rV 4 0), (9, sV .i64 l n), (10, uV n), (11, uV k)] [(1, some (56, .ds [nl9])), (3, some (77, .ds (dI .i64 o))), (4, some (77, .ds [iD (List.getD l (k * 2) 0), iD (List.getD l ((k * 2) + 1) 0)]))] 5 ⟨rfl, zo, (dI_lds .i64 l (k * 2) 2 zl10r1), rfl⟩ ?_
  by_cases hx2 : (v < (List.getD l ((k * 2) + 1) 0))
  ·refine y9s [.no, .no, .no, .b true] ((v < (List.getD l ((k * 2) + 1) 0))) [(1, iV v), (4, rV 1 0), (5, oV 3 0 q 2), (7, rV 4 0), (9, sV .i64 l n), (10, uV n), (11, uV k), (18, bV true)] zo ?_
   refine zt ?_
   refine y9g (nz9 4 (.w :: nz9 5 [.ap none (q + 1) (dI .i64 (o ++ ([(max (List.getD l (k * 2) 0) (v + 1)), (List.getD l ((k * 2) + 1) 0)] : List Int))), .no])) (((-9223372036854775808) ≤ (v + 1) ∧ (v + 1) ≤ 9223372036854775807) ∧ ([iD (max (List.getD l (k * 2) 0) (v + 1)), iD (List.getD l ((k * 2) + 1) 0)].length = 1 * 2) ∧ (((dI .i64 o) : List D).length = q * 2) ∧ ((q + 1) * 16 ≤ 140737488355328) ∧ (q + 1 = (q + 1)) ∧ (((dI .i64 o) : List D) ++ [iD (max (List.getD l (k * 2) 0) (v + 1)), iD (List.getD l ((k * 2) + 1) 0)] = (dI .i64 (o ++ ([(max (List.getD l (k * 2) 0) (v + 1)), (List.getD l ((k * 2) + 1) 0)] : List Int))))) [(1, iV v), (4, rV 1 0), (5, oV 6 0 (q + 1) 2), (9, sV .i64 l n), (10, uV n), (11, uV k)] [(1, some (56, .ds [nl9])), (6, some (77, .ds (dI .i64 (o ++ ([(max (List.getD l (k * 2) 0) (v + 1)), (List.getD l ((k * 2) + 1) 0)] : List Int)))))] 7 ⟨⟨by omega, by omega⟩, zl10r1, zl10r1, zo, zo, (dI_app .i64 o ([(max (List.getD l (k * 2) 0) (v + 1)), (List.getD l ((k * 2) + 1) 0)] : List Int))⟩ ?_
   refine y9h [.w, .no] ((-9223372036854775808) ≤ ((k : Int) + 1) ∧ ((k : Int) + 1) ≤ 9223372036854775807) [(1, iV v), (4, rV 1 0), (5, oV 6 0 (q + 1) 2), (9, sV .i64 l n), (10, uV n), (11, iV (↑k + 1))] ⟨by omega, by omega⟩ ?_
   exact Rd.of ⟨(((k + 1) : Nat), ((q + 1) : Nat), ((o ++ ([(max (List.getD l (k * 2) 0) (v + 1)), (List.getD l ((k * 2) + 1) 0)] : List Int)) : List Int)), ⟨zl10r11, (by first | exact av_y ho zo (by first | rfl | (rw [Int.max_def]; split <;> omega)) rfl | exact av_n ho zo), zl10r5⟩⟩ [(3, 6)] (P := (q9i v) ∧ (q9n 0) ∧ (q9n 0) ∧ (q9n (q + 1)) ∧ (q9d (dI .i64 l)) ∧ (q9n n) ∧ (q9i (n : Int)) ∧ (((((k + 1) : Nat) : Int) : Int) = ((k : Int) + 1)) ∧ (q9d [nl9]) ∧ (q9d (dI .i64 (o ++ ([(max (List.getD l (k * 2) 0) (v + 1)), (List.getD l ((k * 2) + 1) 0)] : List Int))))) zk ⟨rfl, rfl, rfl, rfl, rfl, rfl, rfl, zl10r9, rfl, rfl⟩ (show n - (k + 1) < n - k from zl10r10)
  ·refine y9s [.no, .no, .no, .b false] (¬ (v < (List.getD l ((k * 2) + 1) 0))) [(1, iV v), (4, rV 1 0), (5, oV 3 0 q 2), (7, rV 4 0), (9, sV .i64 l n), (10, uV n), (11, uV k), (18, bV false)] zo ?_
   refine zfs ?_
   refine y9g [.w, .no] ((-9223372036854775808) ≤ ((k : Int) + 1) ∧ ((k : Int) + 1) ≤ 9223372036854775807) [(1, iV v), (4, rV 1 0), (5, oV 3 0 q 2), (9, sV .i64 l n), (10, uV n), (11, iV (↑k + 1))] [(1, some (56, .ds [nl9])), (3, some (77, .ds (dI .i64 o)))] 5 ⟨by omega, by omega⟩ ?_
   exact Rd.of ⟨(((k + 1) : Nat), (q : Nat), (o : List Int)), ⟨zl10r11, (by first | exact av_y ho zo (by first | rfl | (rw [Int.max_def]; split <;> omega)) rfl | exact av_n ho zo), zl10r5⟩⟩ [] (P := (q9i v) ∧ (q9n 0) ∧ (q9n 0) ∧ (q9n q) ∧ (q9d (dI .i64 l)) ∧ (q9n n) ∧ (q9i (n : Int)) ∧ (((((k + 1) : Nat) : Int) : Int) = ((k : Int) + 1)) ∧ (q9d [nl9]) ∧ (q9d (dI .i64 o))) zk ⟨rfl, rfl, rfl, rfl, rfl, rfl, rfl, zl10r9, rfl, rfl⟩ (show n - (k + 1) < n - k from zl10r10)
 ·refine y9r [.b false] (¬ ((k : Int) < (n : Int))) [(1, iV v), (4, rV 1 0), (5, oV 3 0 q 2), (9, sV .i64 l n), (10, uV n), (11, uV k), (12, bV false)] [(1, some (56, .ds [nl9])), (3, some (77, .ds (dI .i64 o)))] 4 zo ?_
  refine AW.seq ?_
  refine zf ?_
  refine AW.exit ?_
  refine y9r [.no, .no, .no] True [(4, rV 1 0)] [(1, some (56, .cs [.own 3 0 q 2 true])), (3, some (77, .ds (dI .i64 o)))] 4 trivial ?_
  refine AW.freeze 3 (l' := [(4, rV 1 0)]) (g' := [(1, some (56, .ds [dl o q]))]) rfl (FzS.cons rfl (.same _) FzS.nil) (FzG.to (bc := .cs [.own 3 0 q 2 true]) rfl (by rfl) (FzL.cons (@FzC.own 3 ((dI .i64 o) : List D) 0 q 2 true ((dI .i64 o) : List D) zl10r0 zl10r1) FzL.nil) FzG.nil) ?_
  have hz1 : avS l v n = o := by have h9 := ho; rw [show k = n by omega] at h9; exact h9
  have hz2 : avN l v n = q := by unfold avN; rw [hz1]; omega
  refine AW.ret ?_
  exact EndP.of (.inr rfl) [] (P := (((dI .i64 (avS l v n)) : List D) = (dI .i64 o)) ∧ (((avN l v n) : Nat) = q)) zk ⟨(by first | rfl | (rw [hz1]; done) | exact hz2 | exact congrArg _ hz1 | omega), (by first | rfl | (rw [hz1]; done) | exact hz2 | exact congrArg _ hz1 | omega)⟩
theorem zl10r8 {p : Prop} (h : p := by first | exact me_l (by omega) | exact me_t (by omega) | exact me_f (by omega) (by omega)) : p := h
theorem R_meet (a b : List Int) (n m : Nat) (ha : List.length a = n * 2) (hb : List.length b = m * 2) (h3 : n ≤ 1000000) (h4 : m ≤ 1000000) : Fun 85 [.agg [.d (D.sl (dI .i64 a) n)], .agg [.d (D.sl (dI .i64 b) m)]] (toG []) 0 (.tup [.agg [.d (D.sl (dI .i64 (isS (spS a n) (spS b m))) (isN (spS a n) (spS b m)))], .c (.d (D.lit (.bool (meB a n b m))))]) (toG []) 0 := by
 refine Fun.mk (n := 30) Tryz.func85 rfl rfl (Nat.le_of_ble_eq_true rfl) ?_
 intro cx hcx
 refine y9r (nz9 4 []) True [(2, rV 0 0), (3, rV 1 0), (4, rV 2 0)] [(0, some (56, .ds [dl a n])), (1, some (56, .ds [dl b m])), (2, some (56, .ds [nl9]))] 3 trivial ?_
 have hx1 : ((List.length (isS (spS a n) (spS b m))) = ((isN (spS a n) (spS b m)) * 2)) := is_len _ _
 have hx2 : ((isN (spS a n) (spS b m)) ≤ 64) := is_le _ _
 refine y9r [.no, .no, .call [] (.e (.agg [.d (dl (isS (spS a n) (spS b m)) (isN (spS a n) (spS b m)))])) [] 0 [] none, .no, .no] _ [(2, rV 0 0), (3, rV 1 0), (4, rV 2 0), (6, rV 3 0)] [(0, some (56, .ds [dl a n])), (1, some (56, .ds [dl b m])), (2, some (56, .ds [nl9])), (3, some (56, .ds [dl (isS (spS a n) (spS b m)) (isN (spS a n) (spS b m))]))] 4 (U_Inter a b n m zo zo zo zo) ?_
 refine AW.seq ?_
 by_cases hx3 : ((((isN (spS a n) (spS b m)) : Nat) : Int) < 64)
 ·refine y9s [.no, .no, .no, .b true] (((isN (spS a n) (spS b m) : Int) < 64)) [(2, rV 0 0), (3, rV 1 0), (4, rV 2 0), (6, rV 3 0), (14, bV true)] zo ?_
  refine zt ?_
  refine y9r [.no, .no, .no] True [(4, rV 2 0), (5, bV true)] [(2, some (56, .ds [dl (isS (spS a n) (spS b m)) (isN (spS a n) (spS b m))]))] 4 trivial ?_
  refine AW.ret ?_
  exact EndP.of (.inr rfl) [] (P := (q9d (dI .i64 (isS (spS a n) (spS b m)))) ∧ (q9n (isN (spS a n) (spS b m))) ∧ ((meB a n b m) = true)) zk ⟨rfl, rfl, zl10r8⟩
 ·refine y9s [.no, .no, .no, .b false] (¬ ((isN (spS a n) (spS b m) : Int) < 64)) [(2, rV 0 0), (3, rV 1 0), (4, rV 2 0), (6, rV 3 0), (14, bV false)] zo ?_
  refine zfs ?_
  have hx4 : 0 ≤ List.getD (isS (spS a n) (spS b m)) 127 0 ∧ List.getD (isS (spS a n) (spS b m)) 127 0 ≤ 2147483647 := is_63 ha hb zo
  have hx5 : ((List.length (avS a (List.getD (isS (spS a n) (spS b m)) 127 0) n)) = ((avN a (List.getD (isS (spS a n) (spS b m)) 127 0) n) * 2)) := (av_len a (List.getD (isS (spS a n) (spS b m)) 127 0) n).1
  have hx6 : ((avN a (List.getD (isS (spS a n) (spS b m)) 127 0) n) ≤ n) := (av_len a (List.getD (isS (spS a n) (spS b m)) 127 0) n).2
  have hx7 : ((List.length (isS (spS (avS a (List.getD (isS (spS a n) (spS b m)) 127 0) n) (avN a (List.getD (isS (spS a n) (spS b m)) 127 0) n)) (spS b m))) = ((isN (spS (avS a (List.getD (isS (spS a n) (spS b m)) 127 0) n) (avN a (List.getD (isS (spS a n) (spS b m)) 127 0) n)) (spS b m)) * 2)) := is_len _ _
  have hx8 : ((isN (spS (avS a (List.getD (isS (spS a n) (spS b m)) 127 0) n) (avN a (List.getD (isS (spS a n) (spS b m)) 127 0) n)) (spS b m)) ≤ 64) := is_le _ _
  refine y9r [.no, .no, .no, .n 63, .no, .d (D.lit (.int .i64 (List.getD (isS (spS a n) (spS b m)) 127 0))), .call [] (.e (.agg [.d (dl (avS a (List.getD (isS (spS a n) (spS b m)) 127 0) n) (avN a (List.getD (isS (spS a n) (spS b m)) 127 0) n))])) [] 0 [] none, .no, .call [] (.e (.agg [.d (dl (isS (spS (avS a (List.getD (isS (spS a n) (spS b m)) 127 0) n) (avN a (List.getD (isS (spS a n) (spS b m)) 127 0) n)) (spS b m)) (isN (spS (avS a (List.getD (isS (spS a n) (spS b m)) 127 0) n) (avN a (List.getD (isS (spS a n) (spS b m)) 127 0) n)) (spS b m)))])) [] 0 [] none, .no, .no] ((q9i 63) ∧ ((63 : Nat) < (isN (spS a n) (spS b m))) ∧ ((List.drop 1 (List.drop 126 (dI .i64 (isS (spS a n) (spS b m)))))[0]? = some (D.lit (.int .i64 (List.getD (isS (spS a n) (spS b m)) 127 0)))) ∧ (_) ∧ (_)) [(4, rV 2 0), (6, rV 3 0), (7, rV 4 0)] [(2, some (56, .ds [nl9])), (3, some (56, .ds [dl (isS (spS a n) (spS b m)) (isN (spS a n) (spS b m))])), (4, some (56, .ds [dl (isS (spS (avS a (List.getD (isS (spS a n) (spS b m)) 127 0) n) (avN a (List.getD (isS (spS a n) (spS b m)) 127 0) n)) (spS b m)) (isN (spS (avS a (List.getD (isS (spS a n) (spS b m)) 127 0) n) (avN a (List.getD (isS (spS a n) (spS b m)) 127 0) n)) (spS b m))]))] 5 ⟨rfl, zo, (by first | (rw [List.drop_drop]; exact dI_at _ _ _ zl10r1) | (rw [List.drop_drop, Nat.add_comm]; exact dI_at _ _ _ zl10r1)), (R_above a n (List.getD (isS (spS a n) (spS b m)) 127 0) zo zo zl10r2), (U_Inter (avS a (List.getD (isS (spS a n) (spS b m)) 127 0) n) b (avN a (List.getD (isS (spS a n) (spS b m)) 127 0) n) m zl10r2 zo zl10r2 zo)⟩ ?_
  by_cases hx9 : ((((isN (spS (avS a (List.getD (isS (spS a n) (spS b m)) 127 0) n) (avN a (List.getD (isS (spS a n) (spS b m)) 127 0) n)) (spS b m)) : Nat) : Int) = 0)
  ·refine y9r (nz9 4 [.b true, .no, .no]) (((((isN (spS (avS a (List.getD (isS (spS a n) (spS b m)) 127 0) n) (avN a (List.getD (isS (spS a n) (spS b m)) 127 0) n)) (spS b m)) : Nat) : Int) = 0)) [(4, rV 2 0), (5, bV true)] [(2, some (56, .ds [dl (isS (spS a n) (spS b m)) (isN (spS a n) (spS b m))]))] 5 zo ?_
   refine AW.ret ?_
   exact EndP.of (.inr rfl) [] (P := (q9d (dI .i64 (isS (spS a n) (spS b m)))) ∧ (q9n (isN (spS a n) (spS b m))) ∧ ((meB a n b m) = true)) zk ⟨rfl, rfl, zl10r8⟩
  ·refine y9r (nz9 4 [.b false, .no, .no]) (¬ ((((isN (spS (avS a (List.getD (isS (spS a n) (spS b m)) 127 0) n) (avN a (List.getD (isS (spS a n) (spS b m)) 127 0) n)) (spS b m)) : Nat) : Int) = 0)) [(4, rV 2 0), (5, bV false)] [(2, some (56, .ds [dl (isS (spS a n) (spS b m)) (isN (spS a n) (spS b m))]))] 5 zo ?_
   refine AW.ret ?_
   exact EndP.of (.inr rfl) [] (P := (q9d (dI .i64 (isS (spS a n) (spS b m)))) ∧ (q9n (isN (spS a n) (spS b m))) ∧ ((meB a n b m) = false)) zk ⟨rfl, rfl, zl10r8⟩
theorem zl10r7 {p : Prop} (h : p := by first | exact xs_t (by assumption) (by assumption) | exact xs_a (by assumption) | exact xs_b (by assumption)) : p := h
abbrev t0R13_0 : BC := .ds [iD 0, D.lit (.slice none 0 0), D.lit (.slice none 0 0), D.lit (.slice none 0 0)]
abbrev t0R13_1 (k : Int) (k2 : Int) (r : List Int) (rn : Nat) (r2 : List Int) (rn2 : Nat) (m : List (List Int)) (m2 : List (List Int)) (c : Nat) (s : List Int) (sn : Nat) (s2 : List Int) (sn2 : Nat) : BC := .ds [iD (adV k k2), D.sl (dI .i64 (isS (spS r rn) (spS r2 rn2))) (isN (spS r rn) (spS r2 rn2)), D.sl (msD (cmS m m2 c)) (List.length (cmS m m2 c)), D.sl (dI .i64 (isS (spS s sn) (spS s2 sn2))) (isN (spS s sn) (spS s2 sn2))]
abbrev t0R13_2 (r : List Int) (rn : Nat) (r2 : List Int) (rn2 : Nat) : BC := .ds [D.sl (dI .i64 (isS (spS r rn) (spS r2 rn2))) (isN (spS r rn) (spS r2 rn2))]
theorem R_cross (k : Int) (r : List Int) (rn : Nat) (m : List (List Int)) (c : Nat) (s : List Int) (sn : Nat) (k2 : Int) (r2 : List Int) (rn2 : Nat) (m2 : List (List Int)) (c2 : Nat) (s2 : List Int) (sn2 : Nat) (hr : List.length r = rn * 2) (hs : List.length s = sn * 2) (hc : List.length m = c) (h1 : rn ≤ 1000000) (h2 : sn ≤ 1000000) (h3 : c ≤ 1000000) (hW : MsW m) (hr2 : List.length r2 = rn2 * 2) (hs2 : List.length s2 = sn2 * 2) (hc2 : List.length m2 = c2) (h12 : rn2 ≤ 1000000) (h22 : sn2 ≤ 1000000) (h32 : c2 ≤ 1000000) (hW2 : MsW m2) : Fun 42 [.agg [iC k, .d (D.sl (dI .i64 r) rn), .d (D.sl (msD m) c), .d (D.sl (dI .i64 s) sn)], .agg [iC k2, .d (D.sl (dI .i64 r2) rn2), .d (D.sl (msD m2) c2), .d (D.sl (dI .i64 s2) sn2)]] (toG []) 0 (.tup [.agg [iC (adV k k2), .d (D.sl (dI .i64 (isS (spS r rn) (spS r2 rn2))) (isN (spS r rn) (spS r2 rn2))), .d (D.sl (msD (cmS m m2 c)) (List.length (cmS m m2 c))), .d (D.sl (dI .i64 (isS (spS s sn) (spS s2 sn2))) (isN (spS s sn) (spS s2 sn2)))], .c (.d (D.lit (.bool (xsB r rn r2 rn2 s sn s2 sn2))))]) (toG []) 0 := by
 refine Fun.mk (n := 43) Tryz.func42 rfl rfl (Nat.le_of_ble_eq_true rfl) ?_
 intro cx hcx
 refine y9r (nz9 4 []) True [(2, rV 0 0), (3, rV 1 0), (4, rV 2 0)] [(0, some (59, .ds [iD k, dl r rn, D.sl (msD m) c, dl s sn])), (1, some (59, .ds [iD k2, dl r2 rn2, D.sl (msD m2) c2, dl s2 sn2])), (2, some (59, t0R13_0))] 3 trivial ?_
 rcases Bool.eq_false_or_eq_true (meB r rn r2 rn2) with hx1 | hx1
 ·have hx2 : ((List.length (isS (spS r rn) (spS r2 rn2))) = ((isN (spS r rn) (spS r2 rn2)) * 2)) := is_len _ _
  have hx3 : ((isN (spS r rn) (spS r2 rn2)) ≤ 64) := is_le _ _
  refine y9r (nz9 4 (.call [] (.tup [.agg [.d (dl (isS (spS r rn) (spS r2 rn2)) (isN (spS r rn) (spS r2 rn2)))], .c (.d (D.lit (.bool true)))]) [] 0 [] none :: nz9 6 [])) (Fun 85 [.agg [.d (dl r rn)], .agg [.d (dl r2 rn2)]] (toG []) 0 (.tup [.agg [.d (dl (isS (spS r rn) (spS r2 rn2)) (isN (spS r rn) (spS r2 rn2)))], .c (.d (D.lit (.bool true)))]) (toG []) 0) [(2, rV 0 0), (3, rV 1 0), (4, rV 2 0), (6, rV 3 0), (7, bV true)] [(0, some (59, .ds [iD k, dl r rn, D.sl (msD m) c, dl s sn])), (1, some (59, .ds [iD k2, dl r2 rn2, D.sl (msD m2) c2, dl s2 sn2])), (2, some (59, t0R13_0)), (3, some (56, (t0R13_2 r rn r2 rn2)))] 4 (by have h0 := (R_meet r r2 rn rn2 zo zo zo zo); rw [hx1] at h0; exact h0) ?_
  rcases Bool.eq_false_or_eq_true (meB s sn s2 sn2) with hx4 | hx4
  ·have hx5 : ((List.length (isS (spS s sn) (spS s2 sn2))) = ((isN (spS s sn) (spS s2 sn2)) * 2)) := is_len _ _
   have hx6 : ((isN (spS s sn) (spS s2 sn2)) ≤ 64) := is_le _ _
   refine y9r (nz9 4 (.call [] (.tup [.agg [.d (dl (isS (spS s sn) (spS s2 sn2)) (isN (spS s sn) (spS s2 sn2)))], .c (.d (D.lit (.bool true)))]) [] 0 [] none :: nz9 6 [])) (Fun 85 [.agg [.d (dl s sn)], .agg [.d (dl s2 sn2)]] (toG []) 0 (.tup [.agg [.d (dl (isS (spS s sn) (spS s2 sn2)) (isN (spS s sn) (spS s2 sn2)))], .c (.d (D.lit (.bool true)))]) (toG []) 0) [(2, rV 0 0), (3, rV 1 0), (4, rV 2 0), (6, rV 3 0), (7, bV true), (8, rV 4 0), (9, bV true)] [(0, some (59, .ds [iD k, dl r rn, D.sl (msD m) c, dl s sn])), (1, some (59, .ds [iD k2, dl r2 rn2, D.sl (msD m2) c2, dl s2 sn2])), (2, some (59, t0R13_0)), (3, some (56, (t0R13_2 r rn r2 rn2))), (4, some (56, .ds [dl (isS (spS s sn) (spS s2 sn2)) (isN (spS s sn) (spS s2 sn2))]))] 5 (by have h0 := (R_meet s s2 sn sn2 zo zo zo zo); rw [hx4] at h0; exact h0) ?_
   have hx7 : ((List.length (cmS m m2 c)) ≤ c) := cmS_le m m2 c
   refine y9r (nz9 4 (.i (adV k k2) :: nz9 5 (.call [] (.e (.c (.d (D.sl (msD (cmS m m2 c)) (List.length (cmS m m2 c)))))) [] 0 [] none :: nz9 8 []))) ((bitsI .and .i64 k k2 = (adV k k2)) ∧ (_)) [(4, rV 2 0), (5, bV true)] [(2, some (59, (t0R13_1 k k2 r rn r2 rn2 m m2 c s sn s2 sn2)))] 5 ⟨rfl, (Q_cm m m2 c c2 zo zo zo zo (show MsW m by with_reducible assumption) (show MsW m2 by with_reducible assumption))⟩ ?_
   refine AW.ret ?_
   exact EndP.of (.inr rfl) [] (P := (q9i (adV k k2)) ∧ (q9d (dI .i64 (isS (spS r rn) (spS r2 rn2)))) ∧ (q9n (isN (spS r rn) (spS r2 rn2))) ∧ (q9d (msD (cmS m m2 c))) ∧ (q9n (List.length (cmS m m2 c))) ∧ (q9d (dI .i64 (isS (spS s sn) (spS s2 sn2)))) ∧ (q9n (isN (spS s sn) (spS s2 sn2))) ∧ ((xsB r rn r2 rn2 s sn s2 sn2) = true)) zk ⟨rfl, rfl, rfl, rfl, rfl, rfl, rfl, zl10r7⟩
  ·have hx8 : ((List.length (isS (spS s sn) (spS s2 sn2))) = ((isN (spS s sn) (spS s2 sn2)) * 2)) := is_len _ _
   have hx9 : ((isN (spS s sn) (spS s2 sn2)) ≤ 64) := is_le _ _
   refine y9r (nz9 4 (.call [] (.tup [.agg [.d (dl (isS (spS s sn) (spS s2 sn2)) (isN (spS s sn) (spS s2 sn2)))], .c (.d (D.lit (.bool false)))]) [] 0 [] none :: nz9 6 [])) (Fun 85 [.agg [.d (dl s sn)], .agg [.d (dl s2 sn2)]] (toG []) 0 (.tup [.agg [.d (dl (isS (spS s sn) (spS s2 sn2)) (isN (spS s sn) (spS s2 sn2)))], .c (.d (D.lit (.bool false)))]) (toG []) 0) [(2, rV 0 0), (3, rV 1 0), (4, rV 2 0), (6, rV 3 0), (7, bV true), (8, rV 4 0), (9, bV false)] [(0, some (59, .ds [iD k, dl r rn, D.sl (msD m) c, dl s sn])), (1, some (59, .ds [iD k2, dl r2 rn2, D.sl (msD m2) c2, dl s2 sn2])), (2, some (59, t0R13_0)), (3, some (56, (t0R13_2 r rn r2 rn2))), (4, some (56, .ds [dl (isS (spS s sn) (spS s2 sn2)) (isN (spS s sn) (spS s2 sn2))]))] 5 (by have h0 := (R_meet s s2 sn sn2 zo zo zo zo); rw [hx4] at h0; exact h0) ?_
   have hx10 : ((List.length (cmS m m2 c)) ≤ c) := cmS_le m m2 c
   refine y9r (nz9 4 (.i (adV k k2) :: nz9 5 (.call [] (.e (.c (.d (D.sl (msD (cmS m m2 c)) (List.length (cmS m m2 c)))))) [] 0 [] none :: nz9 8 []))) ((bitsI .and .i64 k k2 = (adV k k2)) ∧ (_)) [(4, rV 2 0), (5, bV false)] [(2, some (59, (t0R13_1 k k2 r rn r2 rn2 m m2 c s sn s2 sn2)))] 5 ⟨rfl, (Q_cm m m2 c c2 zo zo zo zo (show MsW m by with_reducible assumption) (show MsW m2 by with_reducible assumption))⟩ ?_
   refine AW.ret ?_
   exact EndP.of (.inr rfl) [] (P := (q9i (adV k k2)) ∧ (q9d (dI .i64 (isS (spS r rn) (spS r2 rn2)))) ∧ (q9n (isN (spS r rn) (spS r2 rn2))) ∧ (q9d (msD (cmS m m2 c))) ∧ (q9n (List.length (cmS m m2 c))) ∧ (q9d (dI .i64 (isS (spS s sn) (spS s2 sn2)))) ∧ (q9n (isN (spS s sn) (spS s2 sn2))) ∧ ((xsB r rn r2 rn2 s sn s2 sn2) = false)) zk ⟨rfl, rfl, rfl, rfl, rfl, rfl, rfl, zl10r7⟩
 ·have hx11 : ((List.length (isS (spS r rn) (spS r2 rn2))) = ((isN (spS r rn) (spS r2 rn2)) * 2)) := is_len _ _
  have hx12 : ((isN (spS r rn) (spS r2 rn2)) ≤ 64) := is_le _ _
  refine y9r (nz9 4 (.call [] (.tup [.agg [.d (dl (isS (spS r rn) (spS r2 rn2)) (isN (spS r rn) (spS r2 rn2)))], .c (.d (D.lit (.bool false)))]) [] 0 [] none :: nz9 6 [])) (Fun 85 [.agg [.d (dl r rn)], .agg [.d (dl r2 rn2)]] (toG []) 0 (.tup [.agg [.d (dl (isS (spS r rn) (spS r2 rn2)) (isN (spS r rn) (spS r2 rn2)))], .c (.d (D.lit (.bool false)))]) (toG []) 0) [(2, rV 0 0), (3, rV 1 0), (4, rV 2 0), (6, rV 3 0), (7, bV false)] [(0, some (59, .ds [iD k, dl r rn, D.sl (msD m) c, dl s sn])), (1, some (59, .ds [iD k2, dl r2 rn2, D.sl (msD m2) c2, dl s2 sn2])), (2, some (59, t0R13_0)), (3, some (56, (t0R13_2 r rn r2 rn2)))] 4 (by have h0 := (R_meet r r2 rn rn2 zo zo zo zo); rw [hx1] at h0; exact h0) ?_
  rcases Bool.eq_false_or_eq_true (meB s sn s2 sn2) with hx13 | hx13
  ·have hx14 : ((List.length (isS (spS s sn) (spS s2 sn2))) = ((isN (spS s sn) (spS s2 sn2)) * 2)) := is_len _ _
   have hx15 : ((isN (spS s sn) (spS s2 sn2)) ≤ 64) := is_le _ _
   refine y9r (nz9 4 (.call [] (.tup [.agg [.d (dl (isS (spS s sn) (spS s2 sn2)) (isN (spS s sn) (spS s2 sn2)))], .c (.d (D.lit (.bool true)))]) [] 0 [] none :: nz9 6 [])) (Fun 85 [.agg [.d (dl s sn)], .agg [.d (dl s2 sn2)]] (toG []) 0 (.tup [.agg [.d (dl (isS (spS s sn) (spS s2 sn2)) (isN (spS s sn) (spS s2 sn2)))], .c (.d (D.lit (.bool true)))]) (toG []) 0) [(2, rV 0 0), (3, rV 1 0), (4, rV 2 0), (6, rV 3 0), (7, bV false), (8, rV 4 0), (9, bV true)] [(0, some (59, .ds [iD k, dl r rn, D.sl (msD m) c, dl s sn])), (1, some (59, .ds [iD k2, dl r2 rn2, D.sl (msD m2) c2, dl s2 sn2])), (2, some (59, t0R13_0)), (3, some (56, (t0R13_2 r rn r2 rn2))), (4, some (56, .ds [dl (isS (spS s sn) (spS s2 sn2)) (isN (spS s sn) (spS s2 sn2))]))] 5 (by have h0 := (R_meet s s2 sn sn2 zo zo zo zo); rw [hx13] at h0; exact h0) ?_
   have hx16 : ((List.length (cmS m m2 c)) ≤ c) := cmS_le m m2 c
   refine y9r (nz9 4 (.i (adV k k2) :: nz9 5 (.call [] (.e (.c (.d (D.sl (msD (cmS m m2 c)) (List.length (cmS m m2 c)))))) [] 0 [] none :: nz9 7 []))) ((bitsI .and .i64 k k2 = (adV k k2)) ∧ (_)) [(4, rV 2 0), (5, bV false)] [(2, some (59, (t0R13_1 k k2 r rn r2 rn2 m m2 c s sn s2 sn2)))] 5 ⟨rfl, (Q_cm m m2 c c2 zo zo zo zo (show MsW m by with_reducible assumption) (show MsW m2 by with_reducible assumption))⟩ ?_
   refine AW.ret ?_
   exact EndP.of (.inr rfl) [] (P := (q9i (adV k k2)) ∧ (q9d (dI .i64 (isS (spS r rn) (spS r2 rn2)))) ∧ (q9n (isN (spS r rn) (spS r2 rn2))) ∧ (q9d (msD (cmS m m2 c))) ∧ (q9n (List.length (cmS m m2 c))) ∧ (q9d (dI .i64 (isS (spS s sn) (spS s2 sn2)))) ∧ (q9n (isN (spS s sn) (spS s2 sn2))) ∧ ((xsB r rn r2 rn2 s sn s2 sn2) = false)) zk ⟨rfl, rfl, rfl, rfl, rfl, rfl, rfl, zl10r7⟩
  ·have hx17 : ((List.length (isS (spS s sn) (spS s2 sn2))) = ((isN (spS s sn) (spS s2 sn2)) * 2)) := is_len _ _
   have hx18 : ((isN (spS s sn) (spS s2 sn2)) ≤ 64) := is_le _ _
   refine y9r (nz9 4 (.call [] (.tup [.agg [.d (dl (isS (spS s sn) (spS s2 sn2)) (isN (spS s sn) (spS s2 sn2)))], .c (.d (D.lit (.bool false)))]) [] 0 [] none :: nz9 6 [])) (Fun 85 [.agg [.d (dl s sn)], .agg [.d (dl s2 sn2)]] (toG []) 0 (.tup [.agg [.d (dl (isS (spS s sn) (spS s2 sn2)) (isN (spS s sn) (spS s2 sn2)))], .c (.d (D.lit (.bool false)))]) (toG []) 0) [(2, rV 0 0), (3, rV 1 0), (4, rV 2 0), (6, rV 3 0), (7, bV false), (8, rV 4 0), (9, bV false)] [(0, some (59, .ds [iD k, dl r rn, D.sl (msD m) c, dl s sn])), (1, some (59, .ds [iD k2, dl r2 rn2, D.sl (msD m2) c2, dl s2 sn2])), (2, some (59, t0R13_0)), (3, some (56, (t0R13_2 r rn r2 rn2))), (4, some (56, .ds [dl (isS (spS s sn) (spS s2 sn2)) (isN (spS s sn) (spS s2 sn2))]))] 5 (by have h0 := (R_meet s s2 sn sn2 zo zo zo zo); rw [hx13] at h0; exact h0) ?_
   have hx19 : ((List.length (cmS m m2 c)) ≤ c) := cmS_le m m2 c
   refine y9r (nz9 4 (.i (adV k k2) :: nz9 5 (.call [] (.e (.c (.d (D.sl (msD (cmS m m2 c)) (List.length (cmS m m2 c)))))) [] 0 [] none :: nz9 7 []))) ((bitsI .and .i64 k k2 = (adV k k2)) ∧ (_)) [(4, rV 2 0), (5, bV false)] [(2, some (59, (t0R13_1 k k2 r rn r2 rn2 m m2 c s sn s2 sn2)))] 5 ⟨rfl, (Q_cm m m2 c c2 zo zo zo zo (show MsW m by with_reducible assumption) (show MsW m2 by with_reducible assumption))⟩ ?_
   refine AW.ret ?_
   exact EndP.of (.inr rfl) [] (P := (q9i (adV k k2)) ∧ (q9d (dI .i64 (isS (spS r rn) (spS r2 rn2)))) ∧ (q9n (isN (spS r rn) (spS r2 rn2))) ∧ (q9d (msD (cmS m m2 c))) ∧ (q9n (List.length (cmS m m2 c))) ∧ (q9d (dI .i64 (isS (spS s sn) (spS s2 sn2)))) ∧ (q9n (isN (spS s sn) (spS s2 sn2))) ∧ ((xsB r rn r2 rn2 s sn s2 sn2) = false)) zk ⟨rfl, rfl, rfl, rfl, rfl, rfl, rfl, zl10r7⟩
abbrev t0R14_4 (a : List Bx) (i : Nat) (b : List Bx) (j : Nat) := isS (spS (qbR a i) (qbN a i)) (spS (qbR b j) (qbN b j))
abbrev t0R14_2 (a : List Bx) (i : Nat) (b : List Bx) (j : Nat) := isN (spS (qbR a i) (qbN a i)) (spS (qbR b j) (qbN b j))
abbrev t0R14_1 (a : List Bx) (i : Nat) (b : List Bx) (j : Nat) := cmS (qbM a i) (qbM b j) (List.length (qbM a i))
abbrev t0R14_5 (a : List Bx) (i : Nat) (b : List Bx) (j : Nat) := isS (spS (qbS a i) (qbT a i)) (spS (qbS b j) (qbT b j))
abbrev t0R14_3 (a : List Bx) (i : Nat) (b : List Bx) (j : Nat) := isN (spS (qbS a i) (qbT a i)) (spS (qbS b j) (qbT b j))
abbrev t0R14_0 (a : List Bx) (i : Nat) (b : List Bx) (j : Nat) := mkBx (adV (qbK a i) (qbK b j)) (t0R14_4 a i b j) (t0R14_2 a i b j) (t0R14_1 a i b j) (t0R14_5 a i b j) (t0R14_3 a i b j)
abbrev t0R14_6 (a : List Bx) (i : Nat) : BC := .ds [iD (qbK a i), D.sl (dI .i64 (qbR a i)) (qbN a i), D.sl (msD (qbM a i)) (List.length (qbM a i)), D.sl (dI .i64 (qbS a i)) (qbT a i)]
abbrev t0R14_7 (a : List Bx) (i : Nat) (b : List Bx) (j : Nat) : BC := .ds [iD (adV (qbK a i) (qbK b j)), D.sl (dI .i64 (t0R14_4 a i b j)) (t0R14_2 a i b j), D.sl (msD (t0R14_1 a i b j)) (List.length (t0R14_1 a i b j)), D.sl (dI .i64 (t0R14_5 a i b j)) (t0R14_3 a i b j)]
theorem R_int (a b : List Bx) (n m : Nat) (hn : List.length a = n) (hm : List.length b = m) (h1 : n ≤ 1000) (h2 : m ≤ 1000) (hW : BsW a) (hV : BsW b) : Fun 16 [.c (.d (D.sl (bxD a) n)), .c (.d (D.sl (bxD b) m))] (toG []) 0 (.tup [.c (.d (D.sl (bxD (ixR a b)) (List.length (ixR a b)))), iE (ixE a b)]) (toG []) 0 := by
 refine Fun.mk (n := 59) Tryz.func16 rfl rfl (Nat.le_of_ble_eq_true rfl) ?_
 intro cx hcx
 refine y9r [.no, .no] True [(0, .e (.c (.d (D.sl (bxD a) n)))), (1, .e (.c (.d (D.sl (bxD b) m))))] [] 0 trivial ?_
 refine AW.seq ?_
 rcases Bool.eq_false_or_eq_true (vbB a) with hx1 | hx1
 ·rcases Bool.eq_false_or_eq_true (vbB b) with hx2 | hx2
  ·refine y9s [.no, .call [] (bV true) [] 0 [] none, .no, .no, .no, .call [] (bV true) [] 0 [] none, .no, .no] ((Fun 18 [.c (.d (D.sl (bxD a) n))] (toG []) 0 (bV true) (toG []) 0) ∧ (Fun 18 [.c (.d (D.sl (bxD b) m))] (toG []) 0 (bV true) (toG []) 0)) [(0, .e (.c (.d (D.sl (bxD a) n)))), (1, .e (.c (.d (D.sl (bxD b) m)))), (20, bV false)] ⟨(by have h0 := (M_Valid a n zo zo (show BsW a by with_reducible assumption)); rw [hx1] at h0; exact h0), (by have h0 := (M_Valid b m zo zo (show BsW b by with_reducible assumption)); rw [hx2] at h0; exact h0)⟩ ?_
   refine zfs ?_
   refine y9s [.no] True [(0, .e (.c (.d (D.sl (bxD a) n)))), (1, .e (.c (.d (D.sl (bxD b) m)))), (6, nV)] trivial ?_
   refine AW.seq ?_
   refine y9s [.no, .no, .no] True [(1, .e (.c (.d (D.sl (bxD b) m)))), (6, nV), (21, .e (.c (.d (D.sl (bxD a) n)))), (22, uV n), (23, iV 0)] trivial ?_
   refine AW.block ?_
   refine AW.adoptS 6 4 59 rfl ?_
   refine AW.loopE 0 hcx (fun (x : {x : Nat × Nat × List Bx // match x with | (i, q, o) => (i ≤ n) ∧ (CI a b i o) ∧ (List.length o = q ∧ q ≤ 64) ∧ (BsW o)}) => match x with | ⟨(i, q, o), _⟩ => (⟨[(1, .e (.c (.d (D.sl (bxD b) m)))), (6, oV 1 0 q 4), (21, .e (.c (.d (D.sl (bxD a) n)))), (22, uV n), (23, uV i)], [(1, some (59, .ds (bxD o)))], 2⟩ : ES)) (fun x => match x with | ⟨(i, q, o), _⟩ => n - i) ⟨((0 : Nat), (0 : Nat), (([] : List Bx) : List Bx)), ⟨zl10r11, CI.zero a b, ⟨rfl, by omega⟩, BsW.nil⟩⟩ [(1, 0)] (P := (q9d (bxD b)) ∧ (q9n m) ∧ (q9n 0) ∧ (q9n 0) ∧ (q9d (bxD a)) ∧ (q9n n) ∧ (q9i (n : Int)) ∧ (q9i 0) ∧ (((bxD ([] : List Bx)) : List D) = ([] : List D))) zk ⟨rfl, rfl, rfl, rfl, rfl, rfl, rfl, rfl, (by first | rfl | with_reducible assumption)⟩ ?_
   rintro ⟨⟨i, q, o⟩, hinv0⟩
   obtain ⟨hi, hI, hq, hO⟩ : (i ≤ n) ∧ (CI a b i o) ∧ (List.length o = q ∧ q ≤ 64) ∧ (BsW o) := hinv0
   refine AW.es (l := [(1, .e (.c (.d (D.sl (bxD b) m)))), (6, oV 1 0 q 4), (21, .e (.c (.d (D.sl (bxD a) n)))), (22, uV n), (23, uV i)]) (g := [(1, some (59, .ds (bxD o)))]) (nx := 2) rfl rfl rfl ?_
   by_cases hx3 : (((i : Nat) : Int) < ((n : Nat) : Int))
   ·refine y9r [.b true] (((i : Int) < (n : Int))) [(1, .e (.c (.d (D.sl (bxD b) m)))), (6, oV 1 0 q 4), (21, .e (.c (.d (D.sl (bxD a) n)))), (22, uV n), (23, uV i), (24, bV true)] [(1, some (59, .ds (bxD o)))] 2 zo ?_
    refine AW.seq ?_
    refine zts ?_
    refine AW.seq ?_
    refine AW.block ?_
    obtain ⟨hx4, hx5, hx6, hx7, hx8⟩ := BsW.at (show BsW a by with_reducible assumption) (i)
    refine y9r [.n i, .ds [iD (qbK a i), dl (qbR a i) (qbN a i), D.sl (msD (qbM a i)) (List.length (qbM a i)), dl (qbS a i) (qbT a i)], .no, .no] ((q9i (i : Int)) ∧ (i < n) ∧ (List.take 4 (List.drop (i * 4) (bxD a)) = [iD (qbK a i), dl (qbR a i) (qbN a i), D.sl (msD (qbM a i)) (List.length (qbM a i)), dl (qbS a i) (qbT a i)]) ∧ (([iD (qbK a i), dl (qbR a i) (qbN a i), D.sl (msD (qbM a i)) (List.length (qbM a i)), dl (qbS a i) (qbT a i)] : List D).length = 4)) [(1, .e (.c (.d (D.sl (bxD b) m)))), (6, oV 1 0 q 4), (8, rV 2 0), (21, .e (.c (.d (D.sl (bxD a) n)))), (22, uV n), (23, uV i)] [(1, some (59, .ds (bxD o))), (2, some (59, (t0R14_6 a i)))] 3 ⟨rfl, zo, (bx_at zl10r4), rfl⟩ ?_
    refine y9s [.no, .no, .no] True [(1, .e (.c (.d (D.sl (bxD b) m)))), (6, oV 1 0 q 4), (8, rV 2 0), (21, .e (.c (.d (D.sl (bxD a) n)))), (22, uV n), (23, uV i), (27, .e (.c (.d (D.sl (bxD b) m)))), (28, uV m), (29, iV 0)] trivial ?_
    refine AW.block ?_
    refine AW.loopE 0 hcx (fun (x : {x : Nat × Nat × List Bx // match x with | (j, p, x) => (j ≤ m) ∧ (CJ2 a b i j x) ∧ (List.length x = p ∧ p ≤ 64) ∧ (BsW x)}) => match x with | ⟨(j, p, x), _⟩ => (⟨[(1, .e (.c (.d (D.sl (bxD b) m)))), (6, oV 3 0 p 4), (8, rV 2 0), (21, .e (.c (.d (D.sl (bxD a) n)))), (22, uV n), (23, uV i), (27, .e (.c (.d (D.sl (bxD b) m)))), (28, uV m), (29, uV j)], [(3, some (59, .ds (bxD x))), (2, some (59, (t0R14_6 a i)))], 4⟩ : ES)) (fun x => match x with | ⟨(j, p, x), _⟩ => m - j) ⟨((0 : Nat), (q : Nat), (o : List Bx)), ⟨zl10r11, hI.in, (by first | assumption | omega), hO⟩⟩ [(3, 1)] (P := (q9d (bxD b)) ∧ (q9n m) ∧ (q9n 0) ∧ (q9n q) ∧ (q9n 0) ∧ (q9d (bxD a)) ∧ (q9n n) ∧ (q9i (n : Int)) ∧ (q9i (i : Int)) ∧ (q9d (bxD b)) ∧ (q9n m) ∧ (q9i (m : Int)) ∧ (q9i 0) ∧ (q9d (bxD o)) ∧ (q9d [iD (qbK a i), dl (qbR a i) (qbN a i), D.sl (msD (qbM a i)) (List.length (qbM a i)), dl (qbS a i) (qbT a i)])) zk ⟨rfl, rfl, rfl, rfl, rfl, rfl, rfl, rfl, rfl, rfl, rfl, rfl, rfl, rfl, rfl⟩ ?_
    rintro ⟨⟨j, p, x⟩, hinv1⟩
    obtain ⟨hj, hJ, hp, hX⟩ : (j ≤ m) ∧ (CJ2 a b i j x) ∧ (List.length x = p ∧ p ≤ 64) ∧ (BsW x) := hinv1
    refine AW.es (l := [(1, .e (.c (.d (D.sl (bxD b) m)))), (6, oV 3 0 p 4), (8, rV 2 0), (21, .e (.c (.d (D.sl (bxD a) n)))), (22, uV n), (23, uV i), (27, .e (.c (.d (D.sl (bxD b) m)))), (28, uV m), (29, uV j)]) (g := [(3, some (59, .ds (bxD x))), (2, some (59, (t0R14_6 a i)))]) (nx := 4) rfl rfl rfl ?_
    by_cases hx9 : (((j : Nat) : Int) < ((m : Nat) : Int))
    ·refine y9r [.b true] (((j : Int) < (m : Int))) [(1, .e (.c (.d (D.sl (bxD b) m)))), (6, oV 3 0 p 4), (8, rV 2 0), (21, .e (.c (.d (D.sl (bxD a) n)))), (22, uV n), (23, uV i), (27, .e (.c (.d (D.sl (bxD b) m)))), (28, uV m), (29, uV j), (30, bV true)] [(2, some (59, (t0R14_6 a i))), (3, some (59, .ds (bxD x)))] 4 zo ?_
     refine AW.seq ?_
     refine zts ?_
     refine AW.seq ?_
     refine AW.block ?_
     obtain ⟨hx10, hx11, hx12, hx13, hx14⟩ := BsW.at (show BsW b by with_reducible assumption) (j)
     refine y9r [.n j, .ds [iD (qbK b j), dl (qbR b j) (qbN b j), D.sl (msD (qbM b j)) (List.length (qbM b j)), dl (qbS b j) (qbT b j)], .no, .no] ((q9i (j : Int)) ∧ (j < m) ∧ (List.take 4 (List.drop (j * 4) (bxD b)) = [iD (qbK b j), dl (qbR b j) (qbN b j), D.sl (msD (qbM b j)) (List.length (qbM b j)), dl (qbS b j) (qbT b j)]) ∧ (([iD (qbK b j), dl (qbR b j) (qbN b j), D.sl (msD (qbM b j)) (List.length (qbM b j)), dl (qbS b j) (qbT b j)] : List D).length = 4)) [(1, .e (.c (.d (D.sl (bxD b) m)))), (6, oV 3 0 p 4), (8, rV 2 0), (10, rV 4 0), (21, .e (.c (.d (D.sl (bxD a) n)))), (22, uV n), (23, uV i), (27, .e (.c (.d (D.sl (bxD b) m)))), (28, uV m), (29, uV j)] [(2, some (59, (t0R14_6 a i))), (3, some (59, .ds (bxD x))), (4, some (59, .ds [iD (qbK b j), dl (qbR b j) (qbN b j), D.sl (msD (qbM b j)) (List.length (qbM b j)), dl (qbS b j) (qbT b j)]))] 5 ⟨rfl, zo, (bx_at zl10r4), rfl⟩ ?_
     rcases Bool.eq_false_or_eq_true (xsB (qbR a i) (qbN a i) (qbR b j) (qbN b j) (qbS a i) (qbT a i) (qbS b j) (qbT b j)) with hx15 | hx15
     ·have hx16 : ((List.length (t0R14_1 a i b j)) ≤ (List.length (qbM a i))) := cmS_le (qbM a i) (qbM b j) (List.length (qbM a i))
      have hx17 : ((List.length (t0R14_4 a i b j)) = ((t0R14_2 a i b j) * 2)) := is_len _ _
      have hx18 : ((t0R14_2 a i b j) ≤ 64) := is_le _ _
      have hx19 : ((List.length (t0R14_5 a i b j)) = ((t0R14_3 a i b j) * 2)) := is_len _ _
      have hx20 : ((t0R14_3 a i b j) ≤ 64) := is_le _ _
      have hx21 : (MsW (t0R14_1 a i b j)) := cmS_W ((BsW.ms (show BsW a by with_reducible assumption) _)) _ _
      refine y9r (.no :: .no :: .call [] (.tup [.agg [iC (adV (qbK a i) (qbK b j)), .d (dl (t0R14_4 a i b j) (t0R14_2 a i b j)), .d (D.sl (msD (t0R14_1 a i b j)) (List.length (t0R14_1 a i b j))), .d (dl (t0R14_5 a i b j) (t0R14_3 a i b j))], .c (.d (D.lit (.bool true)))]) [] 0 [] none :: nz9 6 []) (Fun 42 [.agg [iC (qbK a i), .d (dl (qbR a i) (qbN a i)), .d (D.sl (msD (qbM a i)) (List.length (qbM a i))), .d (dl (qbS a i) (qbT a i))], .agg [iC (qbK b j), .d (dl (qbR b j) (qbN b j)), .d (D.sl (msD (qbM b j)) (List.length (qbM b j))), .d (dl (qbS b j) (qbT b j))]] (toG []) 0 (.tup [.agg [iC (adV (qbK a i) (qbK b j)), .d (dl (t0R14_4 a i b j) (t0R14_2 a i b j)), .d (D.sl (msD (t0R14_1 a i b j)) (List.length (t0R14_1 a i b j))), .d (dl (t0R14_5 a i b j) (t0R14_3 a i b j))], .c (.d (D.lit (.bool true)))]) (toG []) 0) [(1, .e (.c (.d (D.sl (bxD b) m)))), (6, oV 3 0 p 4), (8, rV 2 0), (11, rV 5 0), (12, bV true), (21, .e (.c (.d (D.sl (bxD a) n)))), (22, uV n), (23, uV i), (27, .e (.c (.d (D.sl (bxD b) m)))), (28, uV m), (29, uV j)] [(2, some (59, (t0R14_6 a i))), (3, some (59, .ds (bxD x))), (5, some (59, (t0R14_7 a i b j)))] 6 (by have h0 := (R_cross (qbK a i) (qbR a i) (qbN a i) (qbM a i) (List.length (qbM a i)) (qbS a i) (qbT a i) (qbK b j) (qbR b j) (qbN b j) (qbM b j) (List.length (qbM b j)) (qbS b j) (qbT b j) zl10r2 zl10r2 rfl zl10r2 zl10r2 zl10r2 (BsW.ms (show BsW a by with_reducible assumption) _) zl10r2 zl10r2 rfl zl10r2 zl10r2 zl10r2 (BsW.ms (show BsW b by with_reducible assumption) _)); rw [hx15] at h0; exact h0) ?_
      refine AW.seq ?_
      rcases Bool.eq_false_or_eq_true (bxB (adV (qbK a i) (qbK b j)) (t0R14_4 a i b j) (t0R14_2 a i b j) (t0R14_1 a i b j) (t0R14_5 a i b j) (t0R14_3 a i b j)) with hx22 | hx22
      ·refine y9s [.no, .call [] (bV true) [] 0 [] none, .no] (Fun 43 [.agg [iC (adV (qbK a i) (qbK b j)), .d (dl (t0R14_4 a i b j) (t0R14_2 a i b j)), .d (D.sl (msD (t0R14_1 a i b j)) (List.length (t0R14_1 a i b j))), .d (dl (t0R14_5 a i b j) (t0R14_3 a i b j))]] (toG []) 0 (bV true) (toG []) 0) [(1, .e (.c (.d (D.sl (bxD b) m)))), (6, oV 3 0 p 4), (8, rV 2 0), (11, rV 5 0), (12, bV true), (21, .e (.c (.d (D.sl (bxD a) n)))), (22, uV n), (23, uV i), (27, .e (.c (.d (D.sl (bxD b) m)))), (28, uV m), (29, uV j), (41, bV false)] (by have h0 := (M_vbox (adV (qbK a i) (qbK b j)) (t0R14_4 a i b j) (t0R14_2 a i b j) (t0R14_1 a i b j) (List.length (t0R14_1 a i b j)) (t0R14_5 a i b j) (t0R14_3 a i b j) zl10r2 zl10r2 rfl zl10r2 zl10r2 zl10r2 (show MsW (t0R14_1 a i b j) by with_reducible assumption)); rw [hx22] at h0; exact h0) ?_
       refine zfs ?_
       refine AW.seq ?_
       by_cases hx23 : (((p : Nat) : Int) = 64)
       ·refine y9s (nz9 5 [.b true, .no]) (((p : Int) = 64)) [(1, .e (.c (.d (D.sl (bxD b) m)))), (6, oV 3 0 p 4), (8, rV 2 0), (11, rV 5 0), (21, .e (.c (.d (D.sl (bxD a) n)))), (22, uV n), (23, uV i), (27, .e (.c (.d (D.sl (bxD b) m)))), (28, uV m), (29, uV j), (48, bV true)] zo ?_
        refine zt ?_
        refine y9r [.no, .no] True [(4, nV), (5, iV 3)] [] 6 trivial ?_
        obtain ⟨hz1, hz2⟩ := ix_l hx1 hx2 (li_bad (i := i) (j := j) zo zo (by assumption) (by first | exact .inl (by assumption) | exact .inr (by rw [hJ.1]; omega)))
        refine AW.rel (l' := [(4, .e (.c (.d (D.sl ([] : List D) 0)))), (5, iV 3)]) (g' := []) (NlS.cons rfl (.e (.c .nil)) (NlS.cons rfl (.same _) NlS.nil)) NlG.nil ?_
        refine AW.ret ?_
        exact EndP.of (.inr rfl) [] (P := (((bxD (ixR a b)) : List D) = ([] : List D)) ∧ (((List.length (ixR a b)) : Nat) = 0) ∧ (((ixE a b) : Int) = 3)) zk ⟨(by first | rfl | exact hz2 | (rw [hz1]; done) | (rw [hz1]; rfl) | omega), (by first | rfl | exact hz2 | (rw [hz1]; done) | (rw [hz1]; rfl) | omega), (by first | rfl | exact hz2 | (rw [hz1]; done) | (rw [hz1]; rfl) | omega)⟩
       ·refine y9s (nz9 5 [.b false, .no]) (¬ ((p : Int) = 64)) [(1, .e (.c (.d (D.sl (bxD b) m)))), (6, oV 3 0 p 4), (8, rV 2 0), (11, rV 5 0), (21, .e (.c (.d (D.sl (bxD a) n)))), (22, uV n), (23, uV i), (27, .e (.c (.d (D.sl (bxD b) m)))), (28, uV m), (29, uV j), (48, bV false)] zo ?_
        refine zfs ?_
        refine y9g [.no, .no, .no, .ap none (p + 1) (bxD (x ++ ([(t0R14_0 a i b j)] : List Bx))), .no] (([iD (adV (qbK a i) (qbK b j)), dl (t0R14_4 a i b j) (t0R14_2 a i b j), D.sl (msD (t0R14_1 a i b j)) (List.length (t0R14_1 a i b j)), dl (t0R14_5 a i b j) (t0R14_3 a i b j)].length = 1 * 4) ∧ (((bxD x) : List D).length = p * 4) ∧ ((p + 1) * 80 ≤ 140737488355328) ∧ (p + 1 = (p + 1)) ∧ (((bxD x) : List D) ++ [iD (adV (qbK a i) (qbK b j)), dl (t0R14_4 a i b j) (t0R14_2 a i b j), D.sl (msD (t0R14_1 a i b j)) (List.length (t0R14_1 a i b j)), dl (t0R14_5 a i b j) (t0R14_3 a i b j)] = (bxD (x ++ ([(t0R14_0 a i b j)] : List Bx))))) [(1, .e (.c (.d (D.sl (bxD b) m)))), (6, oV 7 0 (p + 1) 4), (8, rV 2 0), (21, .e (.c (.d (D.sl (bxD a) n)))), (22, uV n), (23, uV i), (27, .e (.c (.d (D.sl (bxD b) m)))), (28, uV m), (29, uV j)] [(2, some (59, (t0R14_6 a i))), (7, some (59, .ds (bxD (x ++ ([(t0R14_0 a i b j)] : List Bx)))))] 8 ⟨zl10r1, zl10r1, zo, zo, (bxD_cat x (adV (qbK a i) (qbK b j)) (t0R14_4 a i b j) (t0R14_2 a i b j) (t0R14_1 a i b j) (List.length (t0R14_1 a i b j)) (t0R14_5 a i b j) (t0R14_3 a i b j) (by first | rfl | omega))⟩ ?_
        refine y9h [.w, .no] ((-9223372036854775808) ≤ ((j : Int) + 1) ∧ ((j : Int) + 1) ≤ 9223372036854775807) [(1, .e (.c (.d (D.sl (bxD b) m)))), (6, oV 7 0 (p + 1) 4), (8, rV 2 0), (21, .e (.c (.d (D.sl (bxD a) n)))), (22, uV n), (23, uV i), (27, .e (.c (.d (D.sl (bxD b) m)))), (28, uV m), (29, iV (↑j + 1))] ⟨by omega, by omega⟩ ?_
        exact Rd.of ⟨(((j + 1) : Nat), ((p + 1) : Nat), ((x ++ ([(t0R14_0 a i b j)] : List Bx)) : List Bx)), ⟨zl10r11, (by first | exact hJ.n (by assumption) | exact hJ.y (by assumption) (by assumption) zo), zl10r5, (by first | assumption | exact hX.app (BsW.one (crB_W hW _ _)))⟩⟩ [(3, 7)] (P := (q9d (bxD b)) ∧ (q9n m) ∧ (q9n 0) ∧ (q9n (p + 1)) ∧ (q9n 0) ∧ (q9d (bxD a)) ∧ (q9n n) ∧ (q9i (n : Int)) ∧ (q9i (i : Int)) ∧ (q9d (bxD b)) ∧ (q9n m) ∧ (q9i (m : Int)) ∧ (((((j + 1) : Nat) : Int) : Int) = ((j : Int) + 1)) ∧ (q9d (bxD (x ++ ([(t0R14_0 a i b j)] : List Bx)))) ∧ (q9d [iD (qbK a i), dl (qbR a i) (qbN a i), D.sl (msD (qbM a i)) (List.length (qbM a i)), dl (qbS a i) (qbT a i)])) zk ⟨rfl, rfl, rfl, rfl, rfl, rfl, rfl, rfl, rfl, rfl, rfl, rfl, zl10r9, rfl, rfl⟩ (show m - (j + 1) < m - j from zl10r10)
      ·refine y9s [.no, .call [] (bV false) [] 0 [] none, .no] (Fun 43 [.agg [iC (adV (qbK a i) (qbK b j)), .d (dl (t0R14_4 a i b j) (t0R14_2 a i b j)), .d (D.sl (msD (t0R14_1 a i b j)) (List.length (t0R14_1 a i b j))), .d (dl (t0R14_5 a i b j) (t0R14_3 a i b j))]] (toG []) 0 (bV false) (toG []) 0) [(1, .e (.c (.d (D.sl (bxD b) m)))), (6, oV 3 0 p 4), (8, rV 2 0), (11, rV 5 0), (12, bV true), (21, .e (.c (.d (D.sl (bxD a) n)))), (22, uV n), (23, uV i), (27, .e (.c (.d (D.sl (bxD b) m)))), (28, uV m), (29, uV j), (41, bV true)] (by have h0 := (M_vbox (adV (qbK a i) (qbK b j)) (t0R14_4 a i b j) (t0R14_2 a i b j) (t0R14_1 a i b j) (List.length (t0R14_1 a i b j)) (t0R14_5 a i b j) (t0R14_3 a i b j) zl10r2 zl10r2 rfl zl10r2 zl10r2 zl10r2 (show MsW (t0R14_1 a i b j) by with_reducible assumption)); rw [hx22] at h0; exact h0) ?_
       refine zt ?_
       refine AW.exit ?_
       refine y9g [.w, .no] ((-9223372036854775808) ≤ ((j : Int) + 1) ∧ ((j : Int) + 1) ≤ 9223372036854775807) [(1, .e (.c (.d (D.sl (bxD b) m)))), (6, oV 3 0 p 4), (8, rV 2 0), (21, .e (.c (.d (D.sl (bxD a) n)))), (22, uV n), (23, uV i), (27, .e (.c (.d (D.sl (bxD b) m)))), (28, uV m), (29, iV (↑j + 1))] [(2, some (59, (t0R14_6 a i))), (3, some (59, .ds (bxD x)))] 6 ⟨by omega, by omega⟩ ?_
       exact Rd.of ⟨(((j + 1) : Nat), (p : Nat), (x : List Bx)), ⟨zl10r11, (by first | exact hJ.n (by assumption) | exact hJ.y (by assumption) (by assumption) zo), zl10r5, (by first | assumption | exact hX.app (BsW.one (crB_W hW _ _)))⟩⟩ [] (P := (q9d (bxD b)) ∧ (q9n m) ∧ (q9n 0) ∧ (q9n p) ∧ (q9n 0) ∧ (q9d (bxD a)) ∧ (q9n n) ∧ (q9i (n : Int)) ∧ (q9i (i : Int)) ∧ (q9d (bxD b)) ∧ (q9n m) ∧ (q9i (m : Int)) ∧ (((((j + 1) : Nat) : Int) : Int) = ((j : Int) + 1)) ∧ (q9d (bxD x)) ∧ (q9d [iD (qbK a i), dl (qbR a i) (qbN a i), D.sl (msD (qbM a i)) (List.length (qbM a i)), dl (qbS a i) (qbT a i)])) zk ⟨rfl, rfl, rfl, rfl, rfl, rfl, rfl, rfl, rfl, rfl, rfl, rfl, zl10r9, rfl, rfl⟩ (show m - (j + 1) < m - j from zl10r10)
     ·have hx24 : ((List.length (t0R14_1 a i b j)) ≤ (List.length (qbM a i))) := cmS_le (qbM a i) (qbM b j) (List.length (qbM a i))
      have hx25 : ((List.length (t0R14_4 a i b j)) = ((t0R14_2 a i b j) * 2)) := is_len _ _
      have hx26 : ((t0R14_2 a i b j) ≤ 64) := is_le _ _
      have hx27 : ((List.length (t0R14_5 a i b j)) = ((t0R14_3 a i b j) * 2)) := is_len _ _
      have hx28 : ((t0R14_3 a i b j) ≤ 64) := is_le _ _
      have hx29 : (MsW (t0R14_1 a i b j)) := cmS_W ((BsW.ms (show BsW a by with_reducible assumption) _)) _ _
      refine y9r (.no :: .no :: .call [] (.tup [.agg [iC (adV (qbK a i) (qbK b j)), .d (dl (t0R14_4 a i b j) (t0R14_2 a i b j)), .d (D.sl (msD (t0R14_1 a i b j)) (List.length (t0R14_1 a i b j))), .d (dl (t0R14_5 a i b j) (t0R14_3 a i b j))], .c (.d (D.lit (.bool false)))]) [] 0 [] none :: nz9 6 []) (Fun 42 [.agg [iC (qbK a i), .d (dl (qbR a i) (qbN a i)), .d (D.sl (msD (qbM a i)) (List.length (qbM a i))), .d (dl (qbS a i) (qbT a i))], .agg [iC (qbK b j), .d (dl (qbR b j) (qbN b j)), .d (D.sl (msD (qbM b j)) (List.length (qbM b j))), .d (dl (qbS b j) (qbT b j))]] (toG []) 0 (.tup [.agg [iC (adV (qbK a i) (qbK b j)), .d (dl (t0R14_4 a i b j) (t0R14_2 a i b j)), .d (D.sl (msD (t0R14_1 a i b j)) (List.length (t0R14_1 a i b j))), .d (dl (t0R14_5 a i b j) (t0R14_3 a i b j))], .c (.d (D.lit (.bool false)))]) (toG []) 0) [(1, .e (.c (.d (D.sl (bxD b) m)))), (6, oV 3 0 p 4), (8, rV 2 0), (11, rV 5 0), (12, bV false), (21, .e (.c (.d (D.sl (bxD a) n)))), (22, uV n), (23, uV i), (27, .e (.c (.d (D.sl (bxD b) m)))), (28, uV m), (29, uV j)] [(2, some (59, (t0R14_6 a i))), (3, some (59, .ds (bxD x))), (5, some (59, (t0R14_7 a i b j)))] 6 (by have h0 := (R_cross (qbK a i) (qbR a i) (qbN a i) (qbM a i) (List.length (qbM a i)) (qbS a i) (qbT a i) (qbK b j) (qbR b j) (qbN b j) (qbM b j) (List.length (qbM b j)) (qbS b j) (qbT b j) zl10r2 zl10r2 rfl zl10r2 zl10r2 zl10r2 (BsW.ms (show BsW a by with_reducible assumption) _) zl10r2 zl10r2 rfl zl10r2 zl10r2 zl10r2 (BsW.ms (show BsW b by with_reducible assumption) _)); rw [hx15] at h0; exact h0) ?_
      refine AW.seq ?_
      rcases Bool.eq_false_or_eq_true (bxB (adV (qbK a i) (qbK b j)) (t0R14_4 a i b j) (t0R14_2 a i b j) (t0R14_1 a i b j) (t0R14_5 a i b j) (t0R14_3 a i b j)) with hx30 | hx30
      ·refine y9s [.no, .call [] (bV true) [] 0 [] none, .no] (Fun 43 [.agg [iC (adV (qbK a i) (qbK b j)), .d (dl (t0R14_4 a i b j) (t0R14_2 a i b j)), .d (D.sl (msD (t0R14_1 a i b j)) (List.length (t0R14_1 a i b j))), .d (dl (t0R14_5 a i b j) (t0R14_3 a i b j))]] (toG []) 0 (bV true) (toG []) 0) [(1, .e (.c (.d (D.sl (bxD b) m)))), (6, oV 3 0 p 4), (8, rV 2 0), (11, rV 5 0), (12, bV false), (21, .e (.c (.d (D.sl (bxD a) n)))), (22, uV n), (23, uV i), (27, .e (.c (.d (D.sl (bxD b) m)))), (28, uV m), (29, uV j), (41, bV false)] (by have h0 := (M_vbox (adV (qbK a i) (qbK b j)) (t0R14_4 a i b j) (t0R14_2 a i b j) (t0R14_1 a i b j) (List.length (t0R14_1 a i b j)) (t0R14_5 a i b j) (t0R14_3 a i b j) zl10r2 zl10r2 rfl zl10r2 zl10r2 zl10r2 (show MsW (t0R14_1 a i b j) by with_reducible assumption)); rw [hx30] at h0; exact h0) ?_
       refine zfs ?_
       refine AW.seq ?_
       refine y9s (nz9 4 []) True [(1, .e (.c (.d (D.sl (bxD b) m)))), (6, oV 3 0 p 4), (8, rV 2 0), (11, rV 5 0), (21, .e (.c (.d (D.sl (bxD a) n)))), (22, uV n), (23, uV i), (27, .e (.c (.d (D.sl (bxD b) m)))), (28, uV m), (29, uV j), (48, bV true)] trivial ?_
       refine zt ?_
       refine y9r [.no, .no] True [(4, nV), (5, iV 3)] [] 6 trivial ?_
       obtain ⟨hz1, hz2⟩ := ix_l hx1 hx2 (li_bad (i := i) (j := j) zo zo (by assumption) (by first | exact .inl (by assumption) | exact .inr (by rw [hJ.1]; omega)))
       refine AW.rel (l' := [(4, .e (.c (.d (D.sl ([] : List D) 0)))), (5, iV 3)]) (g' := []) (NlS.cons rfl (.e (.c .nil)) (NlS.cons rfl (.same _) NlS.nil)) NlG.nil ?_
       refine AW.ret ?_
       exact EndP.of (.inr rfl) [] (P := (((bxD (ixR a b)) : List D) = ([] : List D)) ∧ (((List.length (ixR a b)) : Nat) = 0) ∧ (((ixE a b) : Int) = 3)) zk ⟨(by first | rfl | exact hz2 | (rw [hz1]; done) | (rw [hz1]; rfl) | omega), (by first | rfl | exact hz2 | (rw [hz1]; done) | (rw [hz1]; rfl) | omega), (by first | rfl | exact hz2 | (rw [hz1]; done) | (rw [hz1]; rfl) | omega)⟩
      ·refine y9s [.no, .call [] (bV false) [] 0 [] none, .no] (Fun 43 [.agg [iC (adV (qbK a i) (qbK b j)), .d (dl (t0R14_4 a i b j) (t0R14_2 a i b j)), .d (D.sl (msD (t0R14_1 a i b j)) (List.length (t0R14_1 a i b j))), .d (dl (t0R14_5 a i b j) (t0R14_3 a i b j))]] (toG []) 0 (bV false) (toG []) 0) [(1, .e (.c (.d (D.sl (bxD b) m)))), (6, oV 3 0 p 4), (8, rV 2 0), (11, rV 5 0), (12, bV false), (21, .e (.c (.d (D.sl (bxD a) n)))), (22, uV n), (23, uV i), (27, .e (.c (.d (D.sl (bxD b) m)))), (28, uV m), (29, uV j), (41, bV true)] (by have h0 := (M_vbox (adV (qbK a i) (qbK b j)) (t0R14_4 a i b j) (t0R14_2 a i b j) (t0R14_1 a i b j) (List.length (t0R14_1 a i b j)) (t0R14_5 a i b j) (t0R14_3 a i b j) zl10r2 zl10r2 rfl zl10r2 zl10r2 zl10r2 (show MsW (t0R14_1 a i b j) by with_reducible assumption)); rw [hx30] at h0; exact h0) ?_
       refine zt ?_
       refine AW.exit ?_
       refine y9g [.w, .no] ((-9223372036854775808) ≤ ((j : Int) + 1) ∧ ((j : Int) + 1) ≤ 9223372036854775807) [(1, .e (.c (.d (D.sl (bxD b) m)))), (6, oV 3 0 p 4), (8, rV 2 0), (21, .e (.c (.d (D.sl (bxD a) n)))), (22, uV n), (23, uV i), (27, .e (.c (.d (D.sl (bxD b) m)))), (28, uV m), (29, iV (↑j + 1))] [(2, some (59, (t0R14_6 a i))), (3, some (59, .ds (bxD x)))] 6 ⟨by omega, by omega⟩ ?_
       exact Rd.of ⟨(((j + 1) : Nat), (p : Nat), (x : List Bx)), ⟨zl10r11, (by first | exact hJ.n (by assumption) | exact hJ.y (by assumption) (by assumption) zo), zl10r5, (by first | assumption | exact hX.app (BsW.one (crB_W hW _ _)))⟩⟩ [] (P := (q9d (bxD b)) ∧ (q9n m) ∧ (q9n 0) ∧ (q9n p) ∧ (q9n 0) ∧ (q9d (bxD a)) ∧ (q9n n) ∧ (q9i (n : Int)) ∧ (q9i (i : Int)) ∧ (q9d (bxD b)) ∧ (q9n m) ∧ (q9i (m : Int)) ∧ (((((j + 1) : Nat) : Int) : Int) = ((j : Int) + 1)) ∧ (q9d (bxD x)) ∧ (q9d [iD (qbK a i), dl (qbR a i) (qbN a i), D.sl (msD (qbM a i)) (List.length (qbM a i)), dl (qbS a i) (qbT a i)])) zk ⟨rfl, rfl, rfl, rfl, rfl, rfl, rfl, rfl, rfl, rfl, rfl, rfl, zl10r9, rfl, rfl⟩ (show m - (j + 1) < m - j from zl10r10)
    ·refine y9r [.b false] (¬ ((j : Int) < (m : Int))) [(1, .e (.c (.d (D.sl (bxD b) m)))), (6, oV 3 0 p 4), (8, rV 2 0), (21, .e (.c (.d (D.sl (bxD a) n)))), (22, uV n), (23, uV i), (27, .e (.c (.d (D.sl (bxD b) m)))), (28, uV m), (29, uV j), (30, bV false)] [(2, some (59, (t0R14_6 a i))), (3, some (59, .ds (bxD x)))] 4 zo ?_
     refine AW.seq ?_
     refine zf ?_
     refine AW.exit ?_
     refine y9g [.w, .no] ((-9223372036854775808) ≤ ((i : Int) + 1) ∧ ((i : Int) + 1) ≤ 9223372036854775807) [(1, .e (.c (.d (D.sl (bxD b) m)))), (6, oV 3 0 p 4), (21, .e (.c (.d (D.sl (bxD a) n)))), (22, uV n), (23, iV (↑i + 1))] [(3, some (59, .ds (bxD x)))] 4 ⟨by omega, by omega⟩ ?_
     exact Rd.of ⟨(((i + 1) : Nat), (p : Nat), (x : List Bx)), ⟨zl10r11, (hJ.out zo), (by first | assumption | omega), (by assumption)⟩⟩ [(1, 3)] (P := (q9d (bxD b)) ∧ (q9n m) ∧ (q9n 0) ∧ (q9n p) ∧ (q9d (bxD a)) ∧ (q9n n) ∧ (q9i (n : Int)) ∧ (((((i + 1) : Nat) : Int) : Int) = ((i : Int) + 1)) ∧ (q9d (bxD x))) zk ⟨rfl, rfl, rfl, rfl, rfl, rfl, rfl, zl10r9, rfl⟩ (show n - (i + 1) < n - i from zl10r10)
   ·refine y9r [.b false] (¬ ((i : Int) < (n : Int))) [(1, .e (.c (.d (D.sl (bxD b) m)))), (6, oV 1 0 q 4), (21, .e (.c (.d (D.sl (bxD a) n)))), (22, uV n), (23, uV i), (24, bV false)] [(1, some (59, .ds (bxD o)))] 2 zo ?_
    refine AW.seq ?_
    refine zf ?_
    refine AW.exit ?_
    refine AW.freeze 1 (l' := [(1, .e (.c (.d (D.sl (bxD b) m)))), (6, .e (.c (.d (D.sl (bxD o) q)))), (21, .e (.c (.d (D.sl (bxD a) n)))), (22, uV n), (23, uV i), (24, bV false)]) (g' := []) rfl (FzS.cons rfl (.same _) (FzS.cons rfl (.e (.c (@FzC.own 1 ((bxD o) : List D) 0 q 4 true ((bxD o) : List D) zl10r0 zl10r1))) (FzS.cons rfl (.same _) (FzS.cons rfl (.same _) (FzS.cons rfl (.same _) (FzS.cons rfl (.same _) FzS.nil)))))) FzG.nil ?_
    have hx31 : ((List.length (rdR o)) ≤ q) := (Nat.le_trans (rdR_le o) (Nat.le_of_eq (zo)))
    have hx32 : (((0 : Int) ≤ (rdE o)) ∧ ((rdE o) ≤ 1)) := rdE_rng o
    refine y9r (.no :: .call [] (.tup [.c (.d (D.sl (bxD (rdR o)) (List.length (rdR o)))), iE (rdE o)]) [] 0 [] none :: nz9 4 []) _ [(4, .e (.c (.d (D.sl (bxD (rdR o)) (List.length (rdR o)))))), (5, iV (rdE o))] [] 2 (R_red o q zo zo (show BsW o by with_reducible assumption)) ?_
    obtain ⟨hz1, hz2⟩ := ix_y hx1 hx2 hI zo
    refine AW.ret ?_
    exact EndP.of (.inr rfl) [] (P := (((bxD (ixR a b)) : List D) = (bxD (rdR o))) ∧ (((List.length (ixR a b)) : Nat) = (List.length (rdR o))) ∧ (((ixE a b) : Int) = (rdE o))) zk ⟨(by first | rfl | exact hz2 | (rw [hz1]; done) | (rw [hz1]; rfl) | omega), (by first | rfl | exact hz2 | (rw [hz1]; done) | (rw [hz1]; rfl) | omega), (by first | rfl | exact hz2 | (rw [hz1]; done) | (rw [hz1]; rfl) | omega)⟩
  ·refine y9s [.no, .call [] (bV true) [] 0 [] none, .no, .no, .no, .call [] (bV false) [] 0 [] none, .no, .no] ((Fun 18 [.c (.d (D.sl (bxD a) n))] (toG []) 0 (bV true) (toG []) 0) ∧ (Fun 18 [.c (.d (D.sl (bxD b) m))] (toG []) 0 (bV false) (toG []) 0)) [(0, .e (.c (.d (D.sl (bxD a) n)))), (1, .e (.c (.d (D.sl (bxD b) m)))), (20, bV true)] ⟨(by have h0 := (M_Valid a n zo zo (show BsW a by with_reducible assumption)); rw [hx1] at h0; exact h0), (by have h0 := (M_Valid b m zo zo (show BsW b by with_reducible assumption)); rw [hx2] at h0; exact h0)⟩ ?_
   refine zt ?_
   refine y9s [.no, .no] True [(4, nV), (5, iV 1)] trivial ?_
   obtain ⟨hz1, hz2⟩ := ix_b hx2
   refine AW.rel (l' := [(4, .e (.c (.d (D.sl ([] : List D) 0)))), (5, iV 1)]) (g' := []) (NlS.cons rfl (.e (.c .nil)) (NlS.cons rfl (.same _) NlS.nil)) NlG.nil ?_
   refine AW.ret ?_
   exact EndP.of (.inr rfl) [] (P := (((bxD (ixR a b)) : List D) = ([] : List D)) ∧ (((List.length (ixR a b)) : Nat) = 0) ∧ (((ixE a b) : Int) = 1)) zk ⟨(by first | rfl | exact hz2 | (rw [hz1]; done) | (rw [hz1]; rfl) | omega), (by first | rfl | exact hz2 | (rw [hz1]; done) | (rw [hz1]; rfl) | omega), (by first | rfl | exact hz2 | (rw [hz1]; done) | (rw [hz1]; rfl) | omega)⟩
 ·refine y9s [.no, .call [] (bV false) [] 0 [] none, .no, .no, .no] (Fun 18 [.c (.d (D.sl (bxD a) n))] (toG []) 0 (bV false) (toG []) 0) [(0, .e (.c (.d (D.sl (bxD a) n)))), (1, .e (.c (.d (D.sl (bxD b) m)))), (20, bV true)] (by have h0 := (M_Valid a n zo zo (show BsW a by with_reducible assumption)); rw [hx1] at h0; exact h0) ?_
  refine zt ?_
  refine y9s [.no, .no] True [(4, nV), (5, iV 1)] trivial ?_
  obtain ⟨hz1, hz2⟩ := ix_a hx1
  refine AW.rel (l' := [(4, .e (.c (.d (D.sl ([] : List D) 0)))), (5, iV 1)]) (g' := []) (NlS.cons rfl (.e (.c .nil)) (NlS.cons rfl (.same _) NlS.nil)) NlG.nil ?_
  refine AW.ret ?_
  exact EndP.of (.inr rfl) [] (P := (((bxD (ixR a b)) : List D) = ([] : List D)) ∧ (((List.length (ixR a b)) : Nat) = 0) ∧ (((ixE a b) : Int) = 1)) zk ⟨(by first | rfl | exact hz2 | (rw [hz1]; done) | (rw [hz1]; rfl) | omega), (by first | rfl | exact hz2 | (rw [hz1]; done) | (rw [hz1]; rfl) | omega), (by first | rfl | exact hz2 | (rw [hz1]; done) | (rw [hz1]; rfl) | omega)⟩
end Go.Proofs.YtcfmjpnffembpaaGreat
