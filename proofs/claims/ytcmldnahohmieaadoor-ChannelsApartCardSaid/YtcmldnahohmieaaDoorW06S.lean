/- Sorted lists, what two lists have in common. No statement is proved here. -/
import Derived.Test.YtcmldnahohmieaaDoorW06
namespace Go.Proofs.YtcmldnahohmieaaDoor
open Go.ChangeShapes Go.WideShapes Go.ChangeAt Go.RowKit
set_option linter.unusedVariables false
set_option linter.unusedSimpArgs false

/-! sorted lists -/
def stL (l : List Int) : List Int := l.mergeSort fun x y => decide (x ≤ y)
theorem stL_perm (l : List Int) : (stL l).Perm l := List.mergeSort_perm _ _
theorem stL_len (l : List Int) : (stL l).length = l.length := (stL_perm l).length_eq
theorem stL_pw (l : List Int) : (stL l).Pairwise (· ≤ ·) := by
  have h := List.pairwise_mergeSort (le := fun (x y : Int) => decide (x ≤ y)) (fun a b c h1 h2 => decide_eq_true (by have := of_decide_eq_true h1; have := of_decide_eq_true h2; omega)) (fun a b => by
    rw [Bool.or_eq_true]
    rcases Int.le_total a b with h | h
    · exact .inl (decide_eq_true h)
    · exact .inr (decide_eq_true h)) l
  exact h.imp fun h => of_decide_eq_true h
theorem sorted_eq {a b : List Int} (h : a.Perm b) (ha : a.Pairwise (· ≤ ·)) (hb : b.Pairwise (· ≤ ·)) : a = b :=
  List.Perm.eq_of_pairwise (le := (· ≤ ·)) (fun x y _ _ h1 h2 => by omega) ha hb h
theorem stL_nil : stL [] = [] := by unfold stL; exact List.mergeSort_nil
/-- the reference: after so many -/
def SO (m : List Int) (i : Nat) (out : List Int) : Prop := out = stL (List.take i m)
theorem SO.zero (m : List Int) : SO m 0 [] := stL_nil.symm
theorem SO.len {m out : List Int} {i : Nat} (h : SO m i out) (hi : i ≤ m.length) : out.length = i := by
  unfold SO at h; rw [h, stL_len, List.length_take]; omega
theorem SO.fin {m out : List Int} {i : Nat} (h : SO m i out) (hi : m.length ≤ i) : out = stL m := by
  unfold SO at h; rw [List.take_of_length_le hi] at h; exact h
theorem getD_pw {l : List Int} (h : l.Pairwise (· ≤ ·)) {i j : Nat} (hij : i ≤ j) (hj : j < l.length) : List.getD l i 0 ≤ List.getD l j 0 := by
  rcases Nat.lt_or_ge i j with h1 | h1
  · rw [List.getD_eq_getElem?_getD, List.getElem?_eq_getElem (by omega), List.getD_eq_getElem?_getD, List.getElem?_eq_getElem hj]
    exact List.pairwise_iff_getElem.1 h i j (by omega) hj h1
  · rw [show i = j by omega]; exact Int.le_refl _
theorem mem_take_at {l : List Int} {k : Nat} {x : Int} (h : x ∈ List.take k l) : ∃ j, j < k ∧ j < l.length ∧ List.getD l j 0 = x := by
  obtain ⟨j, hj, e⟩ := mem_at.1 h
  rw [List.length_take] at hj
  exact ⟨j, by omega, by omega, by rw [← e, getD_take (by omega)]⟩
theorem mem_drop_at {l : List Int} {k : Nat} {x : Int} (h : x ∈ List.drop k l) : ∃ j, k ≤ j ∧ j < l.length ∧ List.getD l j 0 = x := by
  obtain ⟨j, hj, e⟩ := mem_at.1 h
  rw [List.length_drop] at hj
  exact ⟨k + j, by omega, by omega, by rw [← e, getD_drop]⟩
theorem ins_sorted {out : List Int} {k : Nat} {p : Int} (h : out.Pairwise (· ≤ ·)) (hk : k ≤ out.length) (h1 : ∀ j, k ≤ j → j < out.length → p < List.getD out j 0) (h2 : k = 0 ∨ List.getD out (k - 1) 0 ≤ p) : (List.take k out ++ [p] ++ List.drop k out).Pairwise (· ≤ ·) := by
  rw [List.append_assoc, List.pairwise_append]
  refine ⟨h.sublist (List.take_sublist _ _), ?_, ?_⟩
  · show (p :: List.drop k out).Pairwise _
    refine List.Pairwise.cons (fun x hx => ?_) (h.sublist (List.drop_sublist _ _))
    obtain ⟨j, j1, j2, rfl⟩ := mem_drop_at hx
    have := h1 j j1 j2; omega
  · intro x hx y hy
    obtain ⟨j, j1, j2, rfl⟩ := mem_take_at hx
    have h3 : List.getD out j 0 ≤ p := by
      rcases h2 with h2 | h2
      · omega
      · have := getD_pw h (show j ≤ k - 1 by omega) (show k - 1 < out.length by omega); omega
    rcases List.mem_cons.1 (show y ∈ p :: List.drop k out from hy) with rfl | hy
    · exact h3
    · obtain ⟨q, q1, q2, rfl⟩ := mem_drop_at hy
      have := h1 q q1 q2; omega
theorem ins_perm (out : List Int) (k : Nat) (p : Int) : (List.take k out ++ [p] ++ List.drop k out).Perm (out ++ [p]) := by
  rw [List.append_assoc]
  refine (List.Perm.append_left _ List.perm_append_comm).trans ?_
  rw [← List.append_assoc, List.take_append_drop]
theorem SO.step {m out q : List Int} {i k : Nat} {p : Int} (h : SO m i out) (hi : i < m.length) (hp : p = List.getD m i 0) (hk : k ≤ out.length) (h1 : ∀ j, k ≤ j → j < out.length → p < List.getD out j 0) (h2 : k = 0 ∨ List.getD out (k - 1) 0 ≤ p) (hq : q = List.take k out ++ [p] ++ List.drop k out) : SO m (i + 1) q := by
  unfold SO at *
  have hs : out.Pairwise (· ≤ ·) := by rw [h]; exact stL_pw _
  rw [hq]
  refine sorted_eq ?_ (ins_sorted hs hk h1 h2) (stL_pw _)
  refine (ins_perm out k p).trans ?_
  rw [take_snoc hi, ← hp]
  refine List.Perm.trans ?_ (stL_perm _).symm
  rw [h]
  exact (stL_perm _).append_right _
/-! what two lists have in common -/
def coL (a b : List Int) (n : Nat) : List Int := a.filter fun x => decide (0 ≤ idxK b x n)
theorem coL_len (a b : List Int) (n : Nat) : (coL a b n).length ≤ a.length := List.length_filter_le _ _
def CO (a b : List Int) (n i : Nat) (out : List Int) : Prop := out = coL (List.take i a) b n
theorem CO.zero (a b : List Int) (n : Nat) : CO a b n 0 [] := rfl
theorem CO.y {a b out : List Int} {n i : Nat} {x : Int} (h : CO a b n i out) (hi : i < a.length) (hx : x = List.getD a i 0) (h1 : 0 ≤ idxK b (List.getD a i 0) n) : CO a b n (i + 1) (out ++ [x]) := by
  unfold CO coL at *
  rw [take_snoc hi, List.filter_append, ← h, hx]
  congr 1
  rw [List.filter_cons_of_pos (p := fun x => decide (0 ≤ idxK b x n)) (a := List.getD a i 0) (decide_eq_true h1)]; rfl
theorem CO.n {a b out : List Int} {n i : Nat} (h : CO a b n i out) (hi : i < a.length) (h1 : ¬ 0 ≤ idxK b (List.getD a i 0) n) : CO a b n (i + 1) out := by
  unfold CO coL at *
  rw [take_snoc hi, List.filter_append, ← h]
  have : List.filter (fun x => decide (0 ≤ idxK b x n)) [List.getD a i 0] = [] := by
    rw [List.filter_cons_of_neg (by rw [decide_eq_true_iff]; exact h1)]; rfl
  rw [this, List.append_nil]
theorem CO.fin {a b out : List Int} {n i : Nat} (h : CO a b n i out) (hi : a.length ≤ i) : out = coL a b n := by
  unfold CO at h; rw [List.take_of_length_le hi] at h; exact h
theorem CO.len {a b out : List Int} {n i : Nat} (h : CO a b n i out) (hi : i ≤ a.length) : out.length ≤ i := by
  unfold CO at h; rw [h]
  have := coL_len (List.take i a) b n
  rw [List.length_take] at this; omega
/-! consequences -/
theorem st_valid {a : List Int} {n : Nat} (hn : a.length = n) (h : chB a n = true) : chB (stL a) n = true := by
  obtain ⟨h1, h2, h3⟩ := (chB_iff hn).1 h
  exact (chB_iff (by rw [stL_len]; exact hn)).2 ⟨h1, fun x hx => h2 x ((stL_perm a).mem_iff.1 hx), (stL_perm a).symm.nodup h3⟩
theorem st_asc {a : List Int} {n : Nat} (hn : a.length = n) (h : chB a n = true) {i : Nat} (h1 : 1 ≤ i) (hi : i < n) : List.getD (stL a) (i - 1) 0 < List.getD (stL a) i 0 := by
  have hl := stL_len a
  have h3 := ((chB_iff (by rw [stL_len]; exact hn)).1 (st_valid hn h)).2.2
  have h4 := getD_pw (stL_pw a) (show i - 1 ≤ i by omega) (by omega)
  have h5 := nodup_at.1 h3 (i - 1) i (by omega) (by omega)
  omega
theorem co_all {a : List Int} {n : Nat} (hn : a.length = n) : coL a (stL a) n = a := by
  unfold coL
  rw [List.filter_eq_self]
  intro x hx
  exact decide_eq_true ((idx_mem (by rw [stL_len]; exact hn)).2 ((stL_perm a).mem_iff.2 hx))
theorem co_swap {a b : List Int} {n m : Nat} (hn : a.length = n) (hm : b.length = m) (ha : chB a n = true) (hb : chB b m = true) : stL (coL a b m) = stL (coL b a n) := by
  have ha := ((chB_iff hn).1 ha).2.2
  have hb := ((chB_iff hm).1 hb).2.2
  refine sorted_eq ?_ (stL_pw _) (stL_pw _)
  refine (stL_perm _).trans (List.Perm.trans ?_ (stL_perm _).symm)
  refine (List.perm_ext_iff_of_nodup (ha.sublist List.filter_sublist) (hb.sublist List.filter_sublist)).2 fun x => ?_
  rw [List.mem_filter, List.mem_filter, decide_eq_true_iff, decide_eq_true_iff, idx_mem hm, idx_mem hn]
  exact And.comm
/-! the same -/
def sqB (a b : List Int) : Bool := decide (a = b)
theorem sqB_r (a : List Int) : sqB a a = true := decide_eq_true rfl
theorem sqB_of {a b : List Int} (h : a = b) : sqB a b = true := decide_eq_true h
theorem sqB_ne {a b : List Int} (h : ¬ a = b) : sqB a b = false := decide_eq_false h
theorem sqB_eq {a b : List Int} (h : sqB a b = true) : a = b := of_decide_eq_true h
theorem sqB_nq {a b : List Int} (h : sqB a b = false) : ¬ a = b := of_decide_eq_false h
theorem sqB_y {a b : List Int} (h : a.length = b.length) (h2 : ∀ j, j < a.length → List.getD a j 0 = List.getD b j 0) : sqB a b = true := by
  refine sqB_of (List.ext_getElem h fun i h1 h3 => ?_)
  have := h2 i h1
  rw [List.getD_eq_getElem?_getD, List.getElem?_eq_getElem h1, List.getD_eq_getElem?_getD, List.getElem?_eq_getElem h3] at this
  exact this
theorem sqB_l {a b : List Int} (h : ¬ a.length = b.length) : sqB a b = false := sqB_ne fun e => h (by rw [e])
theorem sqB_n {a b : List Int} {k : Nat} (h : ¬ List.getD a k 0 = List.getD b k 0) : sqB a b = false := sqB_ne fun e => h (by rw [e])
/-- different valid maps have different texts -/
theorem fm_inj {a b : List Int} {n m : Nat} (hn : a.length = n) (hm : b.length = m) (ha : chB a n = true) (hb : chB b m = true) (h : fmL a = fmL b) : a = b := by
  have h1 := (pa_back hn ha).2
  have h2 := (pa_back hm hb).2
  rw [h, h2] at h1; exact h1.symm
theorem gt_step {o : List Int} {k n : Nat} {p : Int} (h : ∀ j, k ≤ j → j < n → p < List.getD o j 0) (h1 : p < List.getD o (k - 1) 0) (hk : 1 ≤ k) : ∀ j, k - 1 ≤ j → j < n → p < List.getD o j 0 := fun j hj hn => by
  rcases Nat.lt_or_ge j k with h7 | h7
  · rw [show j = k - 1 by omega]; exact h1
  · exact h j h7 hn

end Go.Proofs.YtcmldnahohmieaaDoor
