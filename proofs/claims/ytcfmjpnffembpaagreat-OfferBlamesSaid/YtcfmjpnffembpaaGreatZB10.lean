/- What is blamed. No statement is proved here. -/
import Derived.Test.YtcfmjpnffembpaaGreatZU10
namespace Go.Proofs.YtcfmjpnffembpaaGreat
open Go.ChangeShapes Go.WideShapes Go.ChangeAt Go.RowKit
open BitVec renaming ofInt → kh2
open Bool renaming and_eq_true → kb6, not_eq_true → kk8, or_eq_true → kg6
open List renaming exists_mem_of_length_pos → ke4, getD → ka1, getD_eq_getElem?_getD → ka7, getElem?_eq_getElem → ka8, getElem_mem → kg8, length → ka0, length_pos_of_mem → ke7, range → kd6
open Nat renaming le_refl → kc3, not_lt_zero → kd7
set_option linter.unusedVariables false
set_option linter.unusedSimpArgs false
/-! chapter 10: what is blamed -/
theorem jG {xs ys : List Bx} {x : Int} : ∀ i, x ∈ dA xs ys i ↔ ∃ a k, a < i ∧ k < ys.length ∧ x = shE xs ys a k
  | 0 => ⟨fun h => (by cases h), fun ⟨a, _, h, _⟩ => absurd h (kd7 a)⟩
  | i + 1 => by
    rw [dA, List.mem_append, jG i, List.mem_map]
    constructor
    · rintro (⟨a, k, h1, h2, h3⟩ | ⟨k, h1, h2⟩)
      · exact ⟨a, k, by omega, h2, h3⟩
      · exact ⟨i, k, by omega, List.mem_range.1 h1, h2.symm⟩
    · rintro ⟨a, k, h1, h2, h3⟩
      by_cases e : a = i
      · subst e; exact .inr ⟨k, List.mem_range.2 h2, h3.symm⟩
      · exact .inl ⟨a, k, by omega, h2, h3⟩
theorem pD {l : List Int} {s : Int} : zC l l.length s = true ↔ ∃ x ∈ l, qK x s = s := by
  unfold zC; rw [decide_eq_true_iff]
  constructor
  · intro h
    obtain ⟨k, hk, h1⟩ := k0o h
    have h1 : stB (ka1 l k 0) s = true := h1
    rw [ka7, ka8 hk] at h1
    exact ⟨l[k], kg8 hk, of_decide_eq_true h1⟩
  · rintro ⟨x, hx, h⟩
    obtain ⟨k, hk, rfl⟩ := List.mem_iff_getElem.1 hx
    by_cases e : 0 ≤ mtK l s l.length
    · exact e
    · have h1 := pL e k hk
      have h1 : stB (ka1 l k 0) s = false := h1
      rw [ka7, ka8 hk] at h1
      exact absurd h (of_decide_eq_false h1)
theorem k43 (l : List Int) (v : Int) : ∀ n, n ≤ l.length → (0 ≤ qV l v n ↔ ∃ k, k < n ∧ ka1 l k 0 = v)
  | 0, _ => ⟨fun h => absurd (show (0 : Int) ≤ -1 from h) (by decide), fun ⟨k, hk, _⟩ => absurd hk (kd7 k)⟩
  | n + 1, hn => by
    have ih := k43 l v n (by omega)
    show 0 ≤ (if 0 ≤ qV l v n then qV l v n else if ka1 l n 0 = v then (n : Int) else -1) ↔ _
    by_cases h : 0 ≤ qV l v n
    · rw [if_pos h]
      obtain ⟨k, hk, e⟩ := ih.1 h
      exact ⟨fun _ => ⟨k, by omega, e⟩, fun _ => h⟩
    · rw [if_neg h]
      by_cases e : ka1 l n 0 = v
      · rw [if_pos e]; exact ⟨fun _ => ⟨n, by omega, e⟩, fun _ => by omega⟩
      · rw [if_neg e]
        refine ⟨fun h9 => absurd h9 (by decide), fun ⟨k, hk, e2⟩ => absurd (ih.2 ⟨k, ?_, e2⟩) h⟩
        by_cases e3 : k = n
        · subst e3; exact absurd e2 e
        · omega
theorem pN {l : List Int} {v : Int} : ctB l l.length v = true ↔ v ∈ l := by
  unfold ctB; rw [decide_eq_true_iff, k43 l v _ (kc3 _)]
  constructor
  · rintro ⟨k, hk, rfl⟩
    rw [ka7, ka8 hk]; exact kg8 hk
  · intro h
    obtain ⟨k, hk, rfl⟩ := List.mem_iff_getElem.1 h
    exact ⟨k, hk, by rw [ka7, ka8 hk]; rfl⟩
theorem pS (l : List Int) (n : Nat) (hn : 1 ≤ n) : ∀ i : Nat, i ≤ 14 → (iN l n i = 15 ∨ (14 - (i : Int) < iN l n i ∧ iN l n i ≤ 14 ∧ zC l n (iN l n i) = false)) ∧ ∀ s : Int, 14 - (i : Int) < s → s ≤ 14 → zC l n s = false → uY (iN l n i) ≤ uY s
  | 0, _ => ⟨.inl rfl, fun s h1 h2 => by omega⟩
  | i + 1, hi => by
    obtain ⟨h1, h2⟩ := pS l n hn i zo
    rw [iN]
    by_cases hc : 1 ≤ n ∧ zC l n (14 - (i : Int)) = false ∧ uY (14 - (i : Int)) ≤ uY (iN l n i)
    · rw [if_pos hc]
      refine ⟨.inr ⟨by omega, by omega, hc.2.1⟩, fun s h3 h4 h5 => ?_⟩
      by_cases e : s = 14 - (i : Int)
      · rw [e]; exact Int.le_refl _
      · exact Int.le_trans hc.2.2 (h2 s (by omega) h4 h5)
    · rw [if_neg hc]
      refine ⟨h1.imp id fun h => ⟨by omega, h.2⟩, fun s h3 h4 h5 => ?_⟩
      by_cases e : s = 14 - (i : Int)
      · subst e
        by_cases h6 : uY (14 - (i : Int)) ≤ uY (iN l n i)
        · exact absurd ⟨hn, h5, h6⟩ hc
        · omega
      · exact h2 s (by omega) h4 h5
theorem u52 (l : List Int) : ∀ i, iN l 0 i = 15
  | 0 => rfl
  | i + 1 => by rw [iN, if_neg (fun e => absurd e.1 (by decide)), u52 l i]
theorem s5 {l l' : List Int} {n n' : Nat} (h : 1 ≤ n ↔ 1 ≤ n') (hm : ∀ s, zC l n s = zC l' n' s) : ∀ i, iN l n i = iN l' n' i
  | 0 => rfl
  | i + 1 => by
    rw [iN, iN, s5 h hm i, hm]
    by_cases e : 1 ≤ n' ∧ zC l' n' (14 - (i : Int)) = false ∧ uY (14 - (i : Int)) ≤ uY (iN l' n' i)
    · rw [if_pos e, if_pos ⟨h.2 e.1, e.2⟩]
    · rw [if_neg e, if_neg fun e2 => e ⟨h.1 e2.1, e2.2⟩]
/-! dimensions as bits -/
def bdC : Bool := (kd6 2).all fun p => (kd6 2).all fun q => (kd6 2).all fun r => (kd6 2).all fun s => (kd6 16).all fun d => decide (qK ((p : Int) + 2 * (q : Int) + 4 * (r : Int) + 8 * (s : Int)) (d : Int) = (d : Int)) == ((decide (qK (d : Int) 1 = 0) || decide (p = 1)) && ((decide (qK (d : Int) 2 = 0) || decide (q = 1)) && ((decide (qK (d : Int) 4 = 0) || decide (r = 1)) && (decide (qK (d : Int) 8 = 0) || decide (s = 1)))))
theorem v17 : bdC = true := by kernel_rfl
theorem u7w {p q r s d : Int} (hp : 0 ≤ p ∧ p ≤ 1) (hq : 0 ≤ q ∧ q ≤ 1) (hr : 0 ≤ r ∧ r ≤ 1) (hs : 0 ≤ s ∧ s ≤ 1) (hd : 0 ≤ d ∧ d ≤ 15) : qK (p + 2 * q + 4 * r + 8 * s) d = d ↔ (¬ qK d 1 = 0 → p = 1) ∧ (¬ qK d 2 = 0 → q = 1) ∧ (¬ qK d 4 = 0 → r = 1) ∧ (¬ qK d 8 = 0 → s = 1) := by
  obtain ⟨p, rfl⟩ : ∃ n : Nat, p = (n : Int) := ⟨p.toNat, by omega⟩
  obtain ⟨q, rfl⟩ : ∃ n : Nat, q = (n : Int) := ⟨q.toNat, by omega⟩
  obtain ⟨r, rfl⟩ : ∃ n : Nat, r = (n : Int) := ⟨r.toNat, by omega⟩
  obtain ⟨s, rfl⟩ : ∃ n : Nat, s = (n : Int) := ⟨s.toNat, by omega⟩
  obtain ⟨d, rfl⟩ : ∃ n : Nat, d = (n : Int) := ⟨d.toNat, by omega⟩
  have M := fun {n k : Nat} (h : n < k) => List.mem_range.2 h
  have h := (beq_iff_eq).1 (List.all_eq_true.1 (List.all_eq_true.1 (List.all_eq_true.1 (List.all_eq_true.1 (List.all_eq_true.1 v17 p (M (by omega))) q (M (by omega))) r (M (by omega))) s (M (by omega))) d (M (by omega)))
  refine Iff.trans decide_eq_true_iff.symm ?_
  rw [h, kb6, kb6, kb6, kg6, kg6, kg6, kg6]
  simp only [decide_eq_true_iff]
  have e : ∀ (a : Prop) [Decidable a] (n : Nat), (a ∨ n = 1) ↔ (¬ a → (n : Int) = 1) := fun a _ n => by
    constructor
    · rintro (h | h) h2
      · exact absurd h h2
      · omega
    · intro h2
      by_cases h3 : a
      · exact .inl h3
      · exact .inr (by have := h2 h3; omega)
  rw [e, e, e, e]
theorem jZ (xs ys : List Bx) (i j : Nat) : ∃ p q r s : Int, (0 ≤ p ∧ p ≤ 1) ∧ (0 ≤ q ∧ q ≤ 1) ∧ (0 ≤ r ∧ r ≤ 1) ∧ (0 ≤ s ∧ s ≤ 1) ∧ shE xs ys i j = p + 2 * q + 4 * r + 8 * s ∧ (p = 1 ↔ (lS xs ys i j).1) ∧ (q = 1 ↔ (lS xs ys i j).2.1) ∧ (r = 1 ↔ (lS xs ys i j).2.2.1) ∧ (s = 1 ↔ (lS xs ys i j).2.2.2) := by
  have one : ∀ (a : Prop) [Decidable a] (b : Int), ∃ p : Int, (0 ≤ p ∧ p ≤ 1) ∧ (if a then 0 else b) = b * p ∧ (p = 1 ↔ ¬ a) := fun a _ b => by
    by_cases h : a
    · exact ⟨0, by omega, by rw [if_pos h]; simp, by simp [h]⟩
    · exact ⟨1, by omega, by rw [if_neg h]; simp, by simp [h]⟩
  obtain ⟨p, p1, p2, p3⟩ := one (qK (kQ xs i) (kQ ys j) = 0) 1
  obtain ⟨q, q1, q2, q3⟩ := one (qM (kC (kZ xs i) (kX xs i)) (kC (kZ ys j) (kX ys j)) = 0) 2
  obtain ⟨r, r1, r2, r3⟩ := one (ka0 (uK (kL xs i) (kL ys j) (ka0 (kL xs i))) = 0) 4
  obtain ⟨s, s1, s2, s3⟩ := one (qM (kC (qA xs i) (k8 xs i)) (kC (qA ys j) (k8 ys j)) = 0) 8
  refine ⟨p, q, r, s, p1, q1, r1, s1, ?_, p3, ?_, ?_, ?_⟩
  · unfold shE x7; rw [p2, q2, r2, s2]; omega
  · rw [q3]; show _ ↔ 1 ≤ qM _ _; omega
  · rw [r3]; show _ ↔ 1 ≤ ka0 _; omega
  · rw [s3]; show _ ↔ 1 ≤ qM _ _; omega
theorem u49 (xs ys : List Bx) (i j : Nat) {d : Int} (hd : 0 ≤ d ∧ d ≤ 15) : qK (shE xs ys i j) d = d ↔ (¬ qK d 1 = 0 → (lS xs ys i j).1) ∧ (¬ qK d 2 = 0 → (lS xs ys i j).2.1) ∧ (¬ qK d 4 = 0 → (lS xs ys i j).2.2.1) ∧ (¬ qK d 8 = 0 → (lS xs ys i j).2.2.2) := by
  obtain ⟨p, q, r, s, p1, q1, r1, s1, e, p3, q3, r3, s3⟩ := jZ xs ys i j
  rw [e, u7w p1 q1 r1 s1 hd, p3, q3, r3, s3]
theorem u8v (xs ys : List Bx) (i j : Nat) : shE xs ys i j = 15 ↔ (lS xs ys i j).1 ∧ (lS xs ys i j).2.1 ∧ (lS xs ys i j).2.2.1 ∧ (lS xs ys i j).2.2.2 := by
  obtain ⟨p, q, r, s, p1, q1, r1, s1, e, p3, q3, r3, s3⟩ := jZ xs ys i j
  rw [e, ← p3, ← q3, ← r3, ← s3]; omega
def adF : Bool := (kd6 16).all fun m => decide (qK (m : Int) 15 = (m : Int) ∧ qK (m : Int) 0 = 0) && ([1, 2, 4, 8].all fun k : Nat => decide (qK (m : Int) (k : Int) = 0) || decide (dM (m : Int) (k : Int) = (m : Int) - (k : Int) ∧ (k : Int) ≤ (m : Int) ∧ uY ((m : Int) - (k : Int)) < uY (m : Int)))
theorem u58 : adF = true := by kernel_rfl
theorem u0u {m : Int} (h : 0 ≤ m ∧ m ≤ 15) : qK m 15 = m ∧ qK m 0 = 0 := by
  obtain ⟨n, rfl⟩ : ∃ n : Nat, m = (n : Int) := ⟨m.toNat, by omega⟩
  have h1 := List.all_eq_true.1 u58 n (List.mem_range.2 (by omega))
  rw [kb6] at h1
  exact of_decide_eq_true h1.1
theorem u81 {m k : Int} (h : 0 ≤ m ∧ m ≤ 15) (hk : k = 1 ∨ k = 2 ∨ k = 4 ∨ k = 8) (h2 : ¬ qK m k = 0) : dM m k = m - k ∧ k ≤ m ∧ uY (m - k) < uY m := by
  obtain ⟨n, rfl⟩ : ∃ n : Nat, m = (n : Int) := ⟨m.toNat, by omega⟩
  obtain ⟨q, rfl⟩ : ∃ n : Nat, k = (n : Int) := ⟨k.toNat, by omega⟩
  have h1 := List.all_eq_true.1 u58 n (List.mem_range.2 (by omega))
  rw [kb6] at h1
  have hq : q ∈ [1, 2, 4, 8] := by
    rcases (by omega : q = 1 ∨ q = 2 ∨ q = 4 ∨ q = 8) with rfl | rfl | rfl | rfl <;> decide
  have h3 := List.all_eq_true.1 h1.2 q hq
  rw [kg6, decide_eq_true_iff, decide_eq_true_iff] at h3
  exact h3.elim (fun e => absurd e h2) id
/-! the law's parts -/
set_option linter.unusedSectionVars false
theorem u8s {xs ys : List Bx} {d : Int} {i j : Nat} : smZ xs ys d i j = 0 ↔ ¬ smZ xs ys d i j = 1 := by
  have := sC [u7 (kQ xs i) (kZ xs i) (kX xs i) (kL xs i) (qA xs i) (k8 xs i)] [u7 (zK d (kQ xs i) (kQ ys j)) (zL d 2 (kZ xs i) (kZ ys j)) (zN d 2 (kX xs i) (kX ys j)) (zM d 4 (kL xs i) (kL ys j)) (zL d 8 (qA xs i) (qA ys j)) (zN d 8 (k8 xs i) (k8 ys j))]
  have : smZ xs ys d i j ≤ 1 := this
  omega
section
variable {xs bs : List Bx} (h : BsV xs) (h2 : BsV bs) (f : BsF xs) (f2 : BsF bs) (hn : xs.length ≤ 5 ∧ bs.length ≤ 5)
include h h2 f f2 hn
theorem u0q {d : Int} (hd : 0 ≤ d ∧ d ≤ 15) : apB xs bs d = true ↔ zC (dA xs bs xs.length) (dA xs bs xs.length).length d = false := by
  unfold apB
  rw [decide_eq_true_iff, ← kk8, pD]
  constructor
  · rintro h1 ⟨x, hx, e⟩
    obtain ⟨i, j, hi, hj, rfl⟩ := (jG _).1 hx
    exact u8s.1 (h1 i hi j hj) ((k38 d h h2 f f2 hi hj).2 ((u49 xs bs i j hd).1 e))
  · intro h1 i hi j hj
    refine u8s.2 fun e => h1 ⟨shE xs bs i j, (jG _).2 ⟨i, j, hi, hj, rfl⟩, (u49 xs bs i j hd).2 ((k38 d h h2 f f2 hi hj).1 e)⟩
theorem pR : qN xs bs = blP (dA xs bs xs.length) := by
  unfold qN; rw [h.eq (by omega), h2.eq (by omega)]
theorem u6u : 1 ≤ ka0 (d7 xs bs) ↔ (15 : Int) ∈ dA xs bs xs.length := by
  obtain ⟨_, _, h3, h4⟩ := u4g h h2 f f2 (k7p hn.1 hn.2) zo zo
  have h5 : ∀ i j, i < xs.length → j < bs.length → (okX (rH (aB xs i) (aB bs j)) = true ↔ shE xs bs i j = 15) := fun i j hi hj => by
    rw [u09 (h _ (qF hi)) (h2 _ (qF hj)) (f _ (qF hi)) (f2 _ (qF hj)), u8v]
    exact ⟨fun ⟨a, b, c, d⟩ => ⟨a, c, b, d⟩, fun ⟨a, c, b, d⟩ => ⟨a, b, c, d⟩⟩
  constructor
  · intro h6
    obtain ⟨b, hb⟩ := ke4 h6
    have hc := (k8j (h3 b hb)).1 (k4k (h3 b hb).g ⟨0, 0, [], 0⟩).1
    obtain ⟨⟨x, hx, c1⟩, y, hy, c2⟩ := (h4 _).1 ⟨b, hb, hc⟩
    obtain ⟨i, hi, rfl⟩ := List.mem_iff_getElem.1 hx
    obtain ⟨j, hj, rfl⟩ := List.mem_iff_getElem.1 hy
    have ei : aB xs i = xs[i] := by unfold aB; rw [ka7, ka8 hi]; rfl
    have ej : aB bs j = bs[j] := by unfold aB; rw [ka7, ka8 hj]; rfl
    rw [← ei] at c1; rw [← ej] at c2
    have := ((pO (h _ (qF hi)) (h2 _ (qF hj)) (f _ (qF hi)) (f2 _ (qF hj)) _).2 ⟨c1, c2⟩).1
    exact (jG _).2 ⟨i, j, hi, hj, ((h5 i j hi hj).1 this).symm⟩
  · intro h6
    obtain ⟨i, j, hi, hj, e⟩ := (jG _).1 h6
    have ho := (h5 i j hi hj).2 e.symm
    have hv := u0a (h _ (qF hi)) (h2 _ (qF hj)) ho
    have hc := (k8j hv).1 (k4k hv.g ⟨0, 0, [], 0⟩).1
    have := (pO (h _ (qF hi)) (h2 _ (qF hj)) (f _ (qF hi)) (f2 _ (qF hj)) _).1 ⟨ho, hc⟩
    obtain ⟨b, hb, _⟩ := (h4 _).2 ⟨⟨_, qF hi, this.1⟩, _, qF hj, this.2⟩
    exact ke7 hb
theorem o7 : 1 ≤ (dA xs bs xs.length).length ↔ 1 ≤ xs.length ∧ 1 ≤ bs.length := by
  rw [k3g]
  constructor
  · intro e
    constructor
    · by_cases e2 : xs.length = 0
      · rw [e2, Nat.zero_mul] at e; omega
      · omega
    · by_cases e2 : bs.length = 0
      · rw [e2, Nat.mul_zero] at e; omega
      · omega
  · rintro ⟨a, b⟩; exact Nat.mul_pos a b
theorem u0n : (qN xs bs = 0 ∧ 1 ≤ ka0 (d7 xs bs)) ∨ (¬ qN xs bs = 0 ∧ ka0 (d7 xs bs) = 0) := by
  have e := pR h h2 f f2 hn
  have e2 := u6u h h2 f f2 hn
  rw [e]
  unfold blP
  cases hc : ctB (dA xs bs xs.length) (dA xs bs xs.length).length 15 with
  | true =>
    rw [if_pos rfl]
    exact .inl ⟨rfl, e2.2 (pN.1 hc)⟩
  | false =>
    rw [if_neg (by decide)]
    refine .inr ⟨?_, ?_⟩
    · by_cases hp : 1 ≤ (dA xs bs xs.length).length
      · have := (pS (dA xs bs xs.length) _ hp 14 (kc3 _)).1
        omega
      · rw [show (dA xs bs xs.length).length = 0 by omega, u52]; decide
    · have : ¬ 1 ≤ ka0 (d7 xs bs) := fun h9 => by
        rw [pN.2 (e2.1 h9)] at hc; cases hc
      omega
theorem xM : (1 ≤ ka0 xs ∧ 1 ≤ ka0 bs) ∨ qN xs bs = 15 := by
  by_cases hp : 1 ≤ (dA xs bs xs.length).length
  · exact .inl ((o7 h h2 f f2 hn).1 hp)
  · refine .inr ?_
    have hz : dA xs bs xs.length = [] := List.eq_nil_of_length_eq_zero (by omega)
    rw [pR h h2 f f2 hn, hz]; rfl
theorem u51 (hm : ¬ qN xs bs = 0) (h1 : 1 ≤ ka0 xs) (h3 : 1 ≤ ka0 bs) : (qN xs bs = 15 ∨ (1 ≤ qN xs bs ∧ qN xs bs ≤ 14)) ∧ apB xs bs (qN xs bs) = true ∧ ∀ s : Int, 1 ≤ s → s ≤ 14 → apB xs bs s = true → uY (qN xs bs) ≤ uY s := by
  have e := pR h h2 f f2 hn
  have hp := (o7 h h2 f f2 hn).2 ⟨h1, h3⟩
  have hc : ctB (dA xs bs xs.length) (dA xs bs xs.length).length 15 = false := by
    cases hc : ctB (dA xs bs xs.length) (dA xs bs xs.length).length 15 with
    | false => rfl
    | true => exact absurd (by rw [e]; unfold blP; rw [hc]; exact if_pos rfl) hm
  have e2 : qN xs bs = iN (dA xs bs xs.length) (dA xs bs xs.length).length 14 := by
    rw [e]; unfold blP; rw [hc]; exact if_neg (by decide)
  obtain ⟨s1, s2⟩ := pS (dA xs bs xs.length) _ hp 14 (kc3 _)
  rw [← e2] at s1 s2
  refine ⟨s1.imp id fun h9 => by omega, ?_, fun s a b hs => s2 s zo b ((u0q h h2 f f2 hn zo).1 hs)⟩
  rw [u0q h h2 f f2 hn (by omega)]
  rcases s1 with h9 | h9
  · rw [h9, ← kk8, pD]
    rintro ⟨x, hx, hx2⟩
    have := (u0u (t8 xs bs _ x hx)).1
    rw [hx2] at this
    rw [← this] at hx
    rw [pN.2 hx] at hc; cases hc
  · exact h9.2.2
theorem v13 (hm : ¬ qN xs bs = 0) (h1 : 1 ≤ ka0 xs) (h3 : 1 ≤ ka0 bs) : apB xs bs (qN xs bs) = true := (u51 h h2 f f2 hn hm h1 h3).2.1
theorem xL (hm : ¬ qN xs bs = 0) (h1 : 1 ≤ ka0 xs) (h3 : 1 ≤ ka0 bs) {k : Int} (hk : k = 1 ∨ k = 2 ∨ k = 4 ∨ k = 8) (h4 : ¬ qK (qN xs bs) k = 0) : apB xs bs (dM (qN xs bs) k) = false := by
  obtain ⟨r1, _, r3⟩ := u51 h h2 f f2 hn hm h1 h3
  have r : 0 ≤ qN xs bs ∧ qN xs bs ≤ 15 := by omega
  obtain ⟨a1, a2, a3⟩ := u81 r hk h4
  rw [a1]
  cases e : apB xs bs (qN xs bs - k) with
  | false => rfl
  | true =>
    exfalso
    by_cases h0 : qN xs bs - k = 0
    · rw [h0] at e
      have e := (u0q h h2 f f2 hn (by decide)).1 e
      rw [← kk8, pD] at e
      obtain ⟨x, hx⟩ := ke4 ((o7 h h2 f f2 hn).2 ⟨h1, h3⟩)
      exact e ⟨x, hx, (u0u (t8 xs bs _ x hx)).2⟩
    · have := r3 _ (by omega) (by omega) e
      omega
end
theorem u3p (a b : Int) : qK a b = qK b a := by
  show IntKind.i64.wrap (((kh2 64 a &&& kh2 64 b).toNat : Nat) : Int) = IntKind.i64.wrap (((kh2 64 b &&& kh2 64 a).toNat : Nat) : Int)
  rw [BitVec.and_comm]
theorem wU {a b : List Int} {n m : Nat} (ha : a.length = n * 2) (hb : b.length = m * 2) (hq : n + m ≤ 64) (h : 1 ≤ qM (kC a n) (kC b m)) : 1 ≤ qM (kC b m) (kC a n) := by
  obtain ⟨x, hx⟩ := pG (uR (kC a n) (kC b m)) (k0i ha hb) h
  have h1 := (nD ha hb hq).1 hx
  have h2 := (nD (x := x) hb ha (by omega)).2 ⟨h1.2, h1.1⟩
  obtain ⟨p, hp, _⟩ := aV.1 h2
  have := ke7 hp
  rw [qX (uR _ _)] at this; omega
theorem k6l {xs bs : List Bx} (h : BsV xs) (h2 : BsV bs) (f : BsF xs) (f2 : BsF bs) {i j : Nat} (hi : i < xs.length) (hj : j < bs.length) : shE xs bs i j = shE bs xs j i := by
  have hx := h _ (qF hi); have hy := h2 _ (qF hj)
  obtain ⟨fx1, fx2⟩ := f _ (qF hi)
  obtain ⟨fy1, fy2⟩ := f2 _ (qF hj)
  obtain ⟨p, q, r, s, p1, q1, r1, s1, e, p3, q3, r3, s3⟩ := jZ xs bs i j
  obtain ⟨p', q', r', s', p1', q1', r1', s1', e', p3', q3', r3', s3'⟩ := jZ bs xs j i
  have c1 : (lS xs bs i j).1 ↔ (lS bs xs j i).1 := by
    show ¬ qK (kQ xs i) (kQ bs j) = 0 ↔ ¬ qK (kQ bs j) (kQ xs i) = 0
    rw [u3p]
  have c2 : (lS xs bs i j).2.1 ↔ (lS bs xs j i).2.1 := ⟨wU hx.1.1 hy.1.1 (show (aB xs i).rn + (aB bs j).rn ≤ 64 by omega), wU hy.1.1 hx.1.1 (show (aB bs j).rn + (aB xs i).rn ≤ 64 by omega)⟩
  have c4 : (lS xs bs i j).2.2.2 ↔ (lS bs xs j i).2.2.2 := ⟨wU hx.1.2.1 hy.1.2.1 (show (aB xs i).sn + (aB bs j).sn ≤ 64 by omega), wU hy.1.2.1 hx.1.2.1 (show (aB bs j).sn + (aB xs i).sn ≤ 64 by omega)⟩
  have c3 : (lS xs bs i j).2.2.1 ↔ (lS bs xs j i).2.2.1 := by
    constructor
    · intro h9
      obtain ⟨m, hm⟩ := ke4 h9
      exact ke7 (jN.2 (jN.1 hm).symm)
    · intro h9
      obtain ⟨m, hm⟩ := ke4 h9
      exact ke7 (jN.2 (jN.1 hm).symm)
  rw [← p3, ← p3'] at c1; rw [← q3, ← q3'] at c2; rw [← r3, ← r3'] at c3; rw [← s3, ← s3'] at c4
  rw [e, e']; omega
theorem u0m {xs bs : List Bx} (h : BsV xs) (h2 : BsV bs) (f : BsF xs) (f2 : BsF bs) (hn : xs.length ≤ 5 ∧ bs.length ≤ 5) : qN bs xs = qN xs bs := by
  have hm : ∀ x, x ∈ dA bs xs bs.length ↔ x ∈ dA xs bs xs.length := fun x => by
    rw [jG, jG]
    constructor
    · rintro ⟨j, i, hj, hi, rfl⟩; exact ⟨i, j, hi, hj, (k6l h h2 f f2 hi hj).symm⟩
    · rintro ⟨i, j, hi, hj, rfl⟩; exact ⟨j, i, hj, hi, k6l h h2 f f2 hi hj⟩
  have hp : 1 ≤ (dA bs xs bs.length).length ↔ 1 ≤ (dA xs bs xs.length).length := by
    rw [o7 h2 h f2 f ⟨hn.2, hn.1⟩, o7 h h2 f f2 hn]; exact And.comm
  have hc : ctB (dA bs xs bs.length) (dA bs xs bs.length).length 15 = ctB (dA xs bs xs.length) (dA xs bs xs.length).length 15 := Bool.eq_iff_iff.2 (by rw [pN, pN, hm])
  have ht : ∀ s, zC (dA bs xs bs.length) (dA bs xs bs.length).length s = zC (dA xs bs xs.length) (dA xs bs xs.length).length s := fun s => Bool.eq_iff_iff.2 (by
    rw [pD, pD]
    exact ⟨fun ⟨x, a, b⟩ => ⟨x, (hm x).1 a, b⟩, fun ⟨x, a, b⟩ => ⟨x, (hm x).2 a, b⟩⟩)
  rw [pR h h2 f f2 hn, pR h2 h f2 f ⟨hn.2, hn.1⟩]
  unfold blP
  rw [hc, s5 hp ht 14]
end Go.Proofs.YtcfmjpnffembpaaGreat
