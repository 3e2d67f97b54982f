/- What is blamed. No statement is proved here. -/
import Derived.Test.YtcfmjpnffembpaaGreatZU10
namespace Go.Proofs.YtcfmjpnffembpaaGreat
open Go.ChangeShapes Go.WideShapes Go.ChangeAt Go.RowKit
open Bool renaming and_eq_true → kb6, not_eq_true → ki7, or_eq_true → kf7
open List renaming exists_mem_of_length_pos → ke1, getD → ka1, getD_eq_getElem?_getD → ka7, getElem?_eq_getElem → ka8, getElem_mem → kf9, length → ka0, length_pos_of_mem → ke4, range → kd4
open Nat renaming le_refl → kc2, not_lt_zero → kd5
set_option linter.unusedVariables false
set_option linter.unusedSimpArgs false
/-! chapter 10: what is blamed -/
theorem jF {xs ys : List Bx} {x : Int} : ∀ i, x ∈ dA xs ys i ↔ ∃ a k, a < i ∧ k < ys.length ∧ x = shE xs ys a k
  | 0 => ⟨fun h => (by cases h), fun ⟨a, _, h, _⟩ => absurd h (kd5 a)⟩
  | i + 1 => by
    rw [dA, List.mem_append, jF i, List.mem_map]
    constructor
    · rintro (⟨a, k, h1, h2, h3⟩ | ⟨k, h1, h2⟩)
      · exact ⟨a, k, by omega, h2, h3⟩
      · exact ⟨i, k, by omega, List.mem_range.1 h1, h2.symm⟩
    · rintro ⟨a, k, h1, h2, h3⟩
      by_cases e : a = i
      · subst e; exact .inr ⟨k, List.mem_range.2 h2, h3.symm⟩
      · exact .inl ⟨a, k, by omega, h2, h3⟩
theorem pB {l : List Int} {s : Int} : x8 l l.length s = true ↔ ∃ x ∈ l, qK x s = s := by
  unfold x8; rw [decide_eq_true_iff]
  constructor
  · intro h
    obtain ⟨k, hk, h1⟩ := k0k h
    have h1 : stB (ka1 l k 0) s = true := h1
    rw [ka7, ka8 hk] at h1
    exact ⟨l[k], kf9 hk, of_decide_eq_true h1⟩
  · rintro ⟨x, hx, h⟩
    obtain ⟨k, hk, rfl⟩ := List.mem_iff_getElem.1 hx
    by_cases e : 0 ≤ mtK l s l.length
    · exact e
    · have h1 := pJ e k hk
      have h1 : stB (ka1 l k 0) s = false := h1
      rw [ka7, ka8 hk] at h1
      exact absurd h (of_decide_eq_false h1)
theorem k3y (l : List Int) (v : Int) : ∀ n, n ≤ l.length → (0 ≤ qU l v n ↔ ∃ k, k < n ∧ ka1 l k 0 = v)
  | 0, _ => ⟨fun h => absurd (show (0 : Int) ≤ -1 from h) (by decide), fun ⟨k, hk, _⟩ => absurd hk (kd5 k)⟩
  | n + 1, hn => by
    have ih := k3y l v n (by omega)
    show 0 ≤ (if 0 ≤ qU l v n then qU l v n else if ka1 l n 0 = v then (n : Int) else -1) ↔ _
    by_cases h : 0 ≤ qU l v n
    · rw [if_pos h]
      obtain ⟨k, hk, e⟩ := ih.1 h
      exact ⟨fun _ => ⟨k, by omega, e⟩, fun _ => h⟩
    · rw [if_neg h]
      by_cases e : ka1 l n 0 = v
      · rw [if_pos e]; exact ⟨fun _ => ⟨n, by omega, e⟩, fun _ => by omega⟩
      · rw [if_neg e]
        refine ⟨fun h9 => absurd h9 (by decide), fun ⟨k, hk, e2⟩ => absurd (ih.2 ⟨k, ?_, e2⟩) h⟩
        by_cases e3 : k = n
        · subst e3; exact absurd e2 e
        · omega
theorem pL {l : List Int} {v : Int} : ctB l l.length v = true ↔ v ∈ l := by
  unfold ctB; rw [decide_eq_true_iff, k3y l v _ (kc2 _)]
  constructor
  · rintro ⟨k, hk, rfl⟩
    rw [ka7, ka8 hk]; exact kf9 hk
  · intro h
    obtain ⟨k, hk, rfl⟩ := List.mem_iff_getElem.1 h
    exact ⟨k, hk, by rw [ka7, ka8 hk]; rfl⟩
theorem pQ (l : List Int) (n : Nat) (hn : 1 ≤ n) : ∀ i : Nat, i ≤ 14 → (iM l n i = 15 ∨ (14 - (i : Int) < iM l n i ∧ iM l n i ≤ 14 ∧ x8 l n (iM l n i) = false)) ∧ ∀ s : Int, 14 - (i : Int) < s → s ≤ 14 → x8 l n s = false → uY (iM l n i) ≤ uY s
  | 0, _ => ⟨.inl rfl, fun s h1 h2 => by omega⟩
  | i + 1, hi => by
    obtain ⟨h1, h2⟩ := pQ l n hn i zo
    rw [iM]
    by_cases hc : 1 ≤ n ∧ x8 l n (14 - (i : Int)) = false ∧ uY (14 - (i : Int)) ≤ uY (iM l n i)
    · rw [if_pos hc]
      refine ⟨.inr ⟨by omega, by omega, hc.2.1⟩, fun s h3 h4 h5 => ?_⟩
      by_cases e : s = 14 - (i : Int)
      · rw [e]; exact Int.le_refl _
      · exact Int.le_trans hc.2.2 (h2 s (by omega) h4 h5)
    · rw [if_neg hc]
      refine ⟨h1.imp id fun h => ⟨by omega, h.2⟩, fun s h3 h4 h5 => ?_⟩
      by_cases e : s = 14 - (i : Int)
      · subst e
        by_cases h6 : uY (14 - (i : Int)) ≤ uY (iM l n i)
        · exact absurd ⟨hn, h5, h6⟩ hc
        · omega
      · exact h2 s (by omega) h4 h5
theorem u4x (l : List Int) : ∀ i, iM l 0 i = 15
  | 0 => rfl
  | i + 1 => by rw [iM, if_neg (fun e => absurd e.1 (by decide)), u4x l i]
theorem sX {l l' : List Int} {n n' : Nat} (h : 1 ≤ n ↔ 1 ≤ n') (hm : ∀ s, x8 l n s = x8 l' n' s) : ∀ i, iM l n i = iM l' n' i
  | 0 => rfl
  | i + 1 => by
    rw [iM, iM, sX h hm i, hm]
    by_cases e : 1 ≤ n' ∧ x8 l' n' (14 - (i : Int)) = false ∧ uY (14 - (i : Int)) ≤ uY (iM l' n' i)
    · rw [if_pos e, if_pos ⟨h.2 e.1, e.2⟩]
    · rw [if_neg e, if_neg fun e2 => e ⟨h.1 e2.1, e2.2⟩]
/-! dimensions as bits -/
def bdC : Bool := (kd4 2).all fun p => (kd4 2).all fun q => (kd4 2).all fun r => (kd4 2).all fun s => (kd4 16).all fun d => decide (qK ((p : Int) + 2 * (q : Int) + 4 * (r : Int) + 8 * (s : Int)) (d : Int) = (d : Int)) == ((decide (qK (d : Int) 1 = 0) || decide (p = 1)) && ((decide (qK (d : Int) 2 = 0) || decide (q = 1)) && ((decide (qK (d : Int) 4 = 0) || decide (r = 1)) && (decide (qK (d : Int) 8 = 0) || decide (s = 1)))))
theorem v12 : bdC = true := by kernel_rfl
theorem u7r {p q r s d : Int} (hp : 0 ≤ p ∧ p ≤ 1) (hq : 0 ≤ q ∧ q ≤ 1) (hr : 0 ≤ r ∧ r ≤ 1) (hs : 0 ≤ s ∧ s ≤ 1) (hd : 0 ≤ d ∧ d ≤ 15) : qK (p + 2 * q + 4 * r + 8 * s) d = d ↔ (¬ qK d 1 = 0 → p = 1) ∧ (¬ qK d 2 = 0 → q = 1) ∧ (¬ qK d 4 = 0 → r = 1) ∧ (¬ qK d 8 = 0 → s = 1) := by
  obtain ⟨p, rfl⟩ : ∃ n : Nat, p = (n : Int) := ⟨p.toNat, by omega⟩
  obtain ⟨q, rfl⟩ : ∃ n : Nat, q = (n : Int) := ⟨q.toNat, by omega⟩
  obtain ⟨r, rfl⟩ : ∃ n : Nat, r = (n : Int) := ⟨r.toNat, by omega⟩
  obtain ⟨s, rfl⟩ : ∃ n : Nat, s = (n : Int) := ⟨s.toNat, by omega⟩
  obtain ⟨d, rfl⟩ : ∃ n : Nat, d = (n : Int) := ⟨d.toNat, by omega⟩
  have M := fun {n k : Nat} (h : n < k) => List.mem_range.2 h
  have h := (beq_iff_eq).1 (List.all_eq_true.1 (List.all_eq_true.1 (List.all_eq_true.1 (List.all_eq_true.1 (List.all_eq_true.1 v12 p (M (by omega))) q (M (by omega))) r (M (by omega))) s (M (by omega))) d (M (by omega)))
  refine Iff.trans decide_eq_true_iff.symm ?_
  rw [h, kb6, kb6, kb6, kf7, kf7, kf7, kf7]
  simp only [decide_eq_true_iff]
  have e : ∀ (a : Prop) [Decidable a] (n : Nat), (a ∨ n = 1) ↔ (¬ a → (n : Int) = 1) := fun a _ n => by
    constructor
    · rintro (h | h) h2
      · exact absurd h h2
      · omega
    · intro h2
      by_cases h3 : a
      · exact .inl h3
      · exact .inr (by have := h2 h3; omega)
  rw [e, e, e, e]
theorem jY (xs ys : List Bx) (i j : Nat) : ∃ p q r s : Int, (0 ≤ p ∧ p ≤ 1) ∧ (0 ≤ q ∧ q ≤ 1) ∧ (0 ≤ r ∧ r ≤ 1) ∧ (0 ≤ s ∧ s ≤ 1) ∧ shE xs ys i j = p + 2 * q + 4 * r + 8 * s ∧ (p = 1 ↔ (lR xs ys i j).1) ∧ (q = 1 ↔ (lR xs ys i j).2.1) ∧ (r = 1 ↔ (lR xs ys i j).2.2.1) ∧ (s = 1 ↔ (lR xs ys i j).2.2.2) := by
  have one : ∀ (a : Prop) [Decidable a] (b : Int), ∃ p : Int, (0 ≤ p ∧ p ≤ 1) ∧ (if a then 0 else b) = b * p ∧ (p = 1 ↔ ¬ a) := fun a _ b => by
    by_cases h : a
    · exact ⟨0, by omega, by rw [if_pos h]; simp, by simp [h]⟩
    · exact ⟨1, by omega, by rw [if_neg h]; simp, by simp [h]⟩
  obtain ⟨p, p1, p2, p3⟩ := one (qK (kQ xs i) (kQ ys j) = 0) 1
  obtain ⟨q, q1, q2, q3⟩ := one (qM (kC (kZ xs i) (kX xs i)) (kC (kZ ys j) (kX ys j)) = 0) 2
  obtain ⟨r, r1, r2, r3⟩ := one (ka0 (uJ (kL xs i) (kL ys j) (ka0 (kL xs i))) = 0) 4
  obtain ⟨s, s1, s2, s3⟩ := one (qM (kC (qA xs i) (k8 xs i)) (kC (qA ys j) (k8 ys j)) = 0) 8
  refine ⟨p, q, r, s, p1, q1, r1, s1, ?_, p3, ?_, ?_, ?_⟩
  · unfold shE x3; rw [p2, q2, r2, s2]; omega
  · rw [q3]; show _ ↔ 1 ≤ qM _ _; omega
  · rw [r3]; show _ ↔ 1 ≤ ka0 _; omega
  · rw [s3]; show _ ↔ 1 ≤ qM _ _; omega
theorem u44 (xs ys : List Bx) (i j : Nat) {d : Int} (hd : 0 ≤ d ∧ d ≤ 15) : qK (shE xs ys i j) d = d ↔ (¬ qK d 1 = 0 → (lR xs ys i j).1) ∧ (¬ qK d 2 = 0 → (lR xs ys i j).2.1) ∧ (¬ qK d 4 = 0 → (lR xs ys i j).2.2.1) ∧ (¬ qK d 8 = 0 → (lR xs ys i j).2.2.2) := by
  obtain ⟨p, q, r, s, p1, q1, r1, s1, e, p3, q3, r3, s3⟩ := jY xs ys i j
  rw [e, u7r p1 q1 r1 s1 hd, p3, q3, r3, s3]
theorem u8q (xs ys : List Bx) (i j : Nat) : shE xs ys i j = 15 ↔ (lR xs ys i j).1 ∧ (lR xs ys i j).2.1 ∧ (lR xs ys i j).2.2.1 ∧ (lR xs ys i j).2.2.2 := by
  obtain ⟨p, q, r, s, p1, q1, r1, s1, e, p3, q3, r3, s3⟩ := jY xs ys i j
  rw [e, ← p3, ← q3, ← r3, ← s3]; omega
def adF : Bool := (kd4 16).all fun m => decide (qK (m : Int) 15 = (m : Int) ∧ qK (m : Int) 0 = 0) && ([1, 2, 4, 8].all fun k : Nat => decide (qK (m : Int) (k : Int) = 0) || decide (dM (m : Int) (k : Int) = (m : Int) - (k : Int) ∧ (k : Int) ≤ (m : Int) ∧ uY ((m : Int) - (k : Int)) < uY (m : Int)))
theorem u53 : adF = true := by kernel_rfl
theorem u0p {m : Int} (h : 0 ≤ m ∧ m ≤ 15) : qK m 15 = m ∧ qK m 0 = 0 := by
  obtain ⟨n, rfl⟩ : ∃ n : Nat, m = (n : Int) := ⟨m.toNat, by omega⟩
  have h1 := List.all_eq_true.1 u53 n (List.mem_range.2 (by omega))
  rw [kb6] at h1
  exact of_decide_eq_true h1.1
theorem u7w {m k : Int} (h : 0 ≤ m ∧ m ≤ 15) (hk : k = 1 ∨ k = 2 ∨ k = 4 ∨ k = 8) (h2 : ¬ qK m k = 0) : dM m k = m - k ∧ k ≤ m ∧ uY (m - k) < uY m := by
  obtain ⟨n, rfl⟩ : ∃ n : Nat, m = (n : Int) := ⟨m.toNat, by omega⟩
  obtain ⟨q, rfl⟩ : ∃ n : Nat, k = (n : Int) := ⟨k.toNat, by omega⟩
  have h1 := List.all_eq_true.1 u53 n (List.mem_range.2 (by omega))
  rw [kb6] at h1
  have hq : q ∈ [1, 2, 4, 8] := by
    rcases (by omega : q = 1 ∨ q = 2 ∨ q = 4 ∨ q = 8) with rfl | rfl | rfl | rfl <;> decide
  have h3 := List.all_eq_true.1 h1.2 q hq
  rw [kf7, decide_eq_true_iff, decide_eq_true_iff] at h3
  exact h3.elim (fun e => absurd e h2) id
/-! the law's parts -/
set_option linter.unusedSectionVars false
theorem u8n {xs ys : List Bx} {d : Int} {i j : Nat} : smZ xs ys d i j = 0 ↔ ¬ smZ xs ys d i j = 1 := by
  have := r8 [u7 (kQ xs i) (kZ xs i) (kX xs i) (kL xs i) (qA xs i) (k8 xs i)] [u7 (zK d (kQ xs i) (kQ ys j)) (zL d 2 (kZ xs i) (kZ ys j)) (zN d 2 (kX xs i) (kX ys j)) (zM d 4 (kL xs i) (kL ys j)) (zL d 8 (qA xs i) (qA ys j)) (zN d 8 (k8 xs i) (k8 ys j))]
  have : smZ xs ys d i j ≤ 1 := this
  omega
section
variable {xs bs : List Bx} (h : BsV xs) (h2 : BsV bs) (f : BsF xs) (f2 : BsF bs) (hn : xs.length ≤ 5 ∧ bs.length ≤ 5)
include h h2 f f2 hn
theorem u0l {d : Int} (hd : 0 ≤ d ∧ d ≤ 15) : apB xs bs d = true ↔ x8 (dA xs bs xs.length) (dA xs bs xs.length).length d = false := by
  unfold apB
  rw [decide_eq_true_iff, ← ki7, pB]
  constructor
  · rintro h1 ⟨x, hx, e⟩
    obtain ⟨i, j, hi, hj, rfl⟩ := (jF _).1 hx
    exact u8n.1 (h1 i hi j hj) ((k33 d h h2 f f2 hi hj).2 ((u44 xs bs i j hd).1 e))
  · intro h1 i hi j hj
    refine u8n.2 fun e => h1 ⟨shE xs bs i j, (jF _).2 ⟨i, j, hi, hj, rfl⟩, (u44 xs bs i j hd).2 ((k33 d h h2 f f2 hi hj).1 e)⟩
theorem pP : qN xs bs = blP (dA xs bs xs.length) := by
  unfold qN; rw [h.eq (by omega), h2.eq (by omega)]
theorem u6p : 1 ≤ ka0 (d7 xs bs) ↔ (15 : Int) ∈ dA xs bs xs.length := by
  obtain ⟨_, _, h3, h4⟩ := u4b h h2 f f2 (k7k hn.1 hn.2) zo zo
  have h5 : ∀ i j, i < xs.length → j < bs.length → (okX (rD (aB xs i) (aB bs j)) = true ↔ shE xs bs i j = 15) := fun i j hi hj => by
    rw [u04 (h _ (qF hi)) (h2 _ (qF hj)) (f _ (qF hi)) (f2 _ (qF hj)), u8q]
    exact ⟨fun ⟨a, b, c, d⟩ => ⟨a, c, b, d⟩, fun ⟨a, c, b, d⟩ => ⟨a, b, c, d⟩⟩
  constructor
  · intro h6
    obtain ⟨b, hb⟩ := ke1 h6
    have hc := (k8e (h3 b hb)).1 (k4f (h3 b hb).g ⟨0, 0, [], 0⟩).1
    obtain ⟨⟨x, hx, c1⟩, y, hy, c2⟩ := (h4 _).1 ⟨b, hb, hc⟩
    obtain ⟨i, hi, rfl⟩ := List.mem_iff_getElem.1 hx
    obtain ⟨j, hj, rfl⟩ := List.mem_iff_getElem.1 hy
    have ei : aB xs i = xs[i] := by unfold aB; rw [ka7, ka8 hi]; rfl
    have ej : aB bs j = bs[j] := by unfold aB; rw [ka7, ka8 hj]; rfl
    rw [← ei] at c1; rw [← ej] at c2
    have := ((pM (h _ (qF hi)) (h2 _ (qF hj)) (f _ (qF hi)) (f2 _ (qF hj)) _).2 ⟨c1, c2⟩).1
    exact (jF _).2 ⟨i, j, hi, hj, ((h5 i j hi hj).1 this).symm⟩
  · intro h6
    obtain ⟨i, j, hi, hj, e⟩ := (jF _).1 h6
    have ho := (h5 i j hi hj).2 e.symm
    have hv := u05 (h _ (qF hi)) (h2 _ (qF hj)) ho
    have hc := (k8e hv).1 (k4f hv.g ⟨0, 0, [], 0⟩).1
    have := (pM (h _ (qF hi)) (h2 _ (qF hj)) (f _ (qF hi)) (f2 _ (qF hj)) _).1 ⟨ho, hc⟩
    obtain ⟨b, hb, _⟩ := (h4 _).2 ⟨⟨_, qF hi, this.1⟩, _, qF hj, this.2⟩
    exact ke4 hb
theorem o5 : 1 ≤ (dA xs bs xs.length).length ↔ 1 ≤ xs.length ∧ 1 ≤ bs.length := by
  rw [k3b]
  constructor
  · intro e
    constructor
    · by_cases e2 : xs.length = 0
      · rw [e2, Nat.zero_mul] at e; omega
      · omega
    · by_cases e2 : bs.length = 0
      · rw [e2, Nat.mul_zero] at e; omega
      · omega
  · rintro ⟨a, b⟩; exact Nat.mul_pos a b
theorem u0i : (qN xs bs = 0 ∧ 1 ≤ ka0 (d7 xs bs)) ∨ (¬ qN xs bs = 0 ∧ ka0 (d7 xs bs) = 0) := by
  have e := pP h h2 f f2 hn
  have e2 := u6p h h2 f f2 hn
  rw [e]
  unfold blP
  cases hc : ctB (dA xs bs xs.length) (dA xs bs xs.length).length 15 with
  | true =>
    rw [if_pos rfl]
    exact .inl ⟨rfl, e2.2 (pL.1 hc)⟩
  | false =>
    rw [if_neg (by decide)]
    refine .inr ⟨?_, ?_⟩
    · by_cases hp : 1 ≤ (dA xs bs xs.length).length
      · have := (pQ (dA xs bs xs.length) _ hp 14 (kc2 _)).1
        omega
      · rw [show (dA xs bs xs.length).length = 0 by omega, u4x]; decide
    · have : ¬ 1 ≤ ka0 (d7 xs bs) := fun h9 => by
        rw [pL.2 (e2.1 h9)] at hc; cases hc
      omega
theorem xI : (1 ≤ ka0 xs ∧ 1 ≤ ka0 bs) ∨ qN xs bs = 15 := by
  by_cases hp : 1 ≤ (dA xs bs xs.length).length
  · exact .inl ((o5 h h2 f f2 hn).1 hp)
  · refine .inr ?_
    have hz : dA xs bs xs.length = [] := List.eq_nil_of_length_eq_zero (by omega)
    rw [pP h h2 f f2 hn, hz]; rfl
theorem u4w (hm : ¬ qN xs bs = 0) (h1 : 1 ≤ ka0 xs) (h3 : 1 ≤ ka0 bs) : (qN xs bs = 15 ∨ (1 ≤ qN xs bs ∧ qN xs bs ≤ 14)) ∧ apB xs bs (qN xs bs) = true ∧ ∀ s : Int, 1 ≤ s → s ≤ 14 → apB xs bs s = true → uY (qN xs bs) ≤ uY s := by
  have e := pP h h2 f f2 hn
  have hp := (o5 h h2 f f2 hn).2 ⟨h1, h3⟩
  have hc : ctB (dA xs bs xs.length) (dA xs bs xs.length).length 15 = false := by
    cases hc : ctB (dA xs bs xs.length) (dA xs bs xs.length).length 15 with
    | false => rfl
    | true => exact absurd (by rw [e]; unfold blP; rw [hc]; exact if_pos rfl) hm
  have e2 : qN xs bs = iM (dA xs bs xs.length) (dA xs bs xs.length).length 14 := by
    rw [e]; unfold blP; rw [hc]; exact if_neg (by decide)
  obtain ⟨s1, s2⟩ := pQ (dA xs bs xs.length) _ hp 14 (kc2 _)
  rw [← e2] at s1 s2
  refine ⟨s1.imp id fun h9 => by omega, ?_, fun s a b hs => s2 s zo b ((u0l h h2 f f2 hn zo).1 hs)⟩
  rw [u0l h h2 f f2 hn (by omega)]
  rcases s1 with h9 | h9
  · rw [h9, ← ki7, pB]
    rintro ⟨x, hx, hx2⟩
    have := (u0p (t4 xs bs _ x hx)).1
    rw [hx2] at this
    rw [← this] at hx
    rw [pL.2 hx] at hc; cases hc
  · exact h9.2.2
theorem v0y (hm : ¬ qN xs bs = 0) (h1 : 1 ≤ ka0 xs) (h3 : 1 ≤ ka0 bs) : apB xs bs (qN xs bs) = true := (u4w h h2 f f2 hn hm h1 h3).2.1
theorem xH (hm : ¬ qN xs bs = 0) (h1 : 1 ≤ ka0 xs) (h3 : 1 ≤ ka0 bs) {k : Int} (hk : k = 1 ∨ k = 2 ∨ k = 4 ∨ k = 8) (h4 : ¬ qK (qN xs bs) k = 0) : apB xs bs (dM (qN xs bs) k) = false := by
  obtain ⟨r1, _, r3⟩ := u4w h h2 f f2 hn hm h1 h3
  have r : 0 ≤ qN xs bs ∧ qN xs bs ≤ 15 := by omega
  obtain ⟨a1, a2, a3⟩ := u7w r hk h4
  rw [a1]
  cases e : apB xs bs (qN xs bs - k) with
  | false => rfl
  | true =>
    exfalso
    by_cases h0 : qN xs bs - k = 0
    · rw [h0] at e
      have e := (u0l h h2 f f2 hn (by decide)).1 e
      rw [← ki7, pB] at e
      obtain ⟨x, hx⟩ := ke1 ((o5 h h2 f f2 hn).2 ⟨h1, h3⟩)
      exact e ⟨x, hx, (u0p (t4 xs bs _ x hx)).2⟩
    · have := r3 _ (by omega) (by omega) e
      omega
end
theorem u3k (a b : Int) : qK a b = qK b a := by
  show IntKind.i64.wrap (((BitVec.ofInt 64 a &&& BitVec.ofInt 64 b).toNat : Nat) : Int) = IntKind.i64.wrap (((BitVec.ofInt 64 b &&& BitVec.ofInt 64 a).toNat : Nat) : Int)
  rw [BitVec.and_comm]
theorem wQ {a b : List Int} {n m : Nat} (ha : a.length = n * 2) (hb : b.length = m * 2) (hq : n + m ≤ 64) (h : 1 ≤ qM (kC a n) (kC b m)) : 1 ≤ qM (kC b m) (kC a n) := by
  obtain ⟨x, hx⟩ := pE (uR (kC a n) (kC b m)) (k0e ha hb) h
  have h1 := (nC ha hb hq).1 hx
  have h2 := (nC (x := x) hb ha (by omega)).2 ⟨h1.2, h1.1⟩
  obtain ⟨p, hp, _⟩ := aV.1 h2
  have := ke4 hp
  rw [qW (uR _ _)] at this; omega
theorem k6g {xs bs : List Bx} (h : BsV xs) (h2 : BsV bs) (f : BsF xs) (f2 : BsF bs) {i j : Nat} (hi : i < xs.length) (hj : j < bs.length) : shE xs bs i j = shE bs xs j i := by
  have hx := h _ (qF hi); have hy := h2 _ (qF hj)
  obtain ⟨fx1, fx2⟩ := f _ (qF hi)
  obtain ⟨fy1, fy2⟩ := f2 _ (qF hj)
  obtain ⟨p, q, r, s, p1, q1, r1, s1, e, p3, q3, r3, s3⟩ := jY xs bs i j
  obtain ⟨p', q', r', s', p1', q1', r1', s1', e', p3', q3', r3', s3'⟩ := jY bs xs j i
  have c1 : (lR xs bs i j).1 ↔ (lR bs xs j i).1 := by
    show ¬ qK (kQ xs i) (kQ bs j) = 0 ↔ ¬ qK (kQ bs j) (kQ xs i) = 0
    rw [u3k]
  have c2 : (lR xs bs i j).2.1 ↔ (lR bs xs j i).2.1 := ⟨wQ hx.1.1 hy.1.1 (show (aB xs i).rn + (aB bs j).rn ≤ 64 by omega), wQ hy.1.1 hx.1.1 (show (aB bs j).rn + (aB xs i).rn ≤ 64 by omega)⟩
  have c4 : (lR xs bs i j).2.2.2 ↔ (lR bs xs j i).2.2.2 := ⟨wQ hx.1.2.1 hy.1.2.1 (show (aB xs i).sn + (aB bs j).sn ≤ 64 by omega), wQ hy.1.2.1 hx.1.2.1 (show (aB bs j).sn + (aB xs i).sn ≤ 64 by omega)⟩
  have c3 : (lR xs bs i j).2.2.1 ↔ (lR bs xs j i).2.2.1 := by
    constructor
    · intro h9
      obtain ⟨m, hm⟩ := ke1 h9
      exact ke4 (jM.2 (jM.1 hm).symm)
    · intro h9
      obtain ⟨m, hm⟩ := ke1 h9
      exact ke4 (jM.2 (jM.1 hm).symm)
  rw [← p3, ← p3'] at c1; rw [← q3, ← q3'] at c2; rw [← r3, ← r3'] at c3; rw [← s3, ← s3'] at c4
  rw [e, e']; omega
theorem u0h {xs bs : List Bx} (h : BsV xs) (h2 : BsV bs) (f : BsF xs) (f2 : BsF bs) (hn : xs.length ≤ 5 ∧ bs.length ≤ 5) : qN bs xs = qN xs bs := by
  have hm : ∀ x, x ∈ dA bs xs bs.length ↔ x ∈ dA xs bs xs.length := fun x => by
    rw [jF, jF]
    constructor
    · rintro ⟨j, i, hj, hi, rfl⟩; exact ⟨i, j, hi, hj, (k6g h h2 f f2 hi hj).symm⟩
    · rintro ⟨i, j, hi, hj, rfl⟩; exact ⟨j, i, hj, hi, k6g h h2 f f2 hi hj⟩
  have hp : 1 ≤ (dA bs xs bs.length).length ↔ 1 ≤ (dA xs bs xs.length).length := by
    rw [o5 h2 h f2 f ⟨hn.2, hn.1⟩, o5 h h2 f f2 hn]; exact And.comm
  have hc : ctB (dA bs xs bs.length) (dA bs xs bs.length).length 15 = ctB (dA xs bs xs.length) (dA xs bs xs.length).length 15 := Bool.eq_iff_iff.2 (by rw [pL, pL, hm])
  have ht : ∀ s, x8 (dA bs xs bs.length) (dA bs xs bs.length).length s = x8 (dA xs bs xs.length) (dA xs bs xs.length).length s := fun s => Bool.eq_iff_iff.2 (by
    rw [pB, pB]
    exact ⟨fun ⟨x, a, b⟩ => ⟨x, (hm x).1 a, b⟩, fun ⟨x, a, b⟩ => ⟨x, (hm x).2 a, b⟩⟩)
  rw [pP h h2 f f2 hn, pP h2 h f2 f ⟨hn.2, hn.1⟩]
  unfold blP
  rw [hc, sX hp ht 14]
end Go.Proofs.YtcfmjpnffembpaaGreat
