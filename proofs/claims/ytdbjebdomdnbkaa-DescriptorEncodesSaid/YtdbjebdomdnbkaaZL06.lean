/- Merged texts. -/
import Derived.Test.YtdbjebdomdnbkaaZW06
namespace Go.Proofs.Ytdbjebdomdnbkaa
open Go.ChangeShapes Go.WideShapes Go.ChangeAt Go.RowKit
set_option linter.unusedVariables false
set_option linter.unusedSimpArgs false
/-! sorted lists -/
def stL (l : List Int) : List Int := l.mergeSort fun x y => decide (x ≤ y)
theorem lM (l : List Int) : (stL l).Perm l := List.mergeSort_perm _ _
theorem z3 (l : List Int) : (stL l).length = l.length := (lM l).length_eq
theorem k2x (l : List Int) : (stL l).Pairwise (· ≤ ·) := by
  have h := List.pairwise_mergeSort (le := fun (x y : Int) => decide (x ≤ y)) (fun a b c h1 h2 => decide_eq_true (by have := of_decide_eq_true h1; have := of_decide_eq_true h2; omega)) (fun a b => by
    rw [Bool.or_eq_true]
    rcases Int.le_total a b with h | h
    · exact .inl (decide_eq_true h)
    · exact .inr (decide_eq_true h)) l
  exact h.imp fun h => of_decide_eq_true h
theorem k17 {a b : List Int} (h : a.Perm b) (ha : a.Pairwise (· ≤ ·)) (hb : b.Pairwise (· ≤ ·)) : a = b :=
  List.Perm.eq_of_pairwise (le := (· ≤ ·)) (fun x y _ _ h1 h2 => by omega) ha hb h
theorem k7c : stL [] = [] := by unfold stL; exact List.mergeSort_nil
def SO (m : List Int) (i : Nat) (out : List Int) : Prop := out = stL (List.take i m)
theorem SO.zero (m : List Int) : SO m 0 [] := k7c.symm
theorem SO.len {m out : List Int} {i : Nat} (h : SO m i out) (hi : i ≤ m.length) : out.length = i := by
  unfold SO at h; rw [h, z3, List.length_take]; omega
theorem SO.fin {m out : List Int} {i : Nat} (h : SO m i out) (hi : m.length ≤ i) : out = stL m := by
  unfold SO at h; rw [List.take_of_length_le hi] at h; exact h
theorem k8c {l : List Int} (h : l.Pairwise (· ≤ ·)) {i j : Nat} (hij : i ≤ j) (hj : j < l.length) : List.getD l i 0 ≤ List.getD l j 0 := by
  rcases Nat.lt_or_ge i j with h1 | h1
  · rw [List.getD_eq_getElem?_getD, List.getElem?_eq_getElem (by omega), List.getD_eq_getElem?_getD, List.getElem?_eq_getElem hj]
    exact List.pairwise_iff_getElem.1 h i j (by omega) hj h1
  · rw [show i = j by omega]; exact Int.le_refl _
theorem tQ {l : List Int} {k : Nat} {x : Int} (h : x ∈ List.take k l) : ∃ j, j < k ∧ j < l.length ∧ List.getD l j 0 = x := by
  obtain ⟨j, hj, e⟩ := rC.1 h
  rw [List.length_take] at hj
  exact ⟨j, by omega, by omega, by rw [← e, k1r (by omega)]⟩
theorem i9 {l : List Int} {k : Nat} {x : Int} (h : x ∈ List.drop k l) : ∃ j, k ≤ j ∧ j < l.length ∧ List.getD l j 0 = x := by
  obtain ⟨j, hj, e⟩ := rC.1 h
  rw [List.length_drop] at hj
  exact ⟨k + j, by omega, by omega, by rw [← e, k1s]⟩
theorem xP {out : List Int} {k : Nat} {p : Int} (h : out.Pairwise (· ≤ ·)) (hk : k ≤ out.length) (h1 : ∀ j, k ≤ j → j < out.length → p < List.getD out j 0) (h2 : k = 0 ∨ List.getD out (k - 1) 0 ≤ p) : (List.take k out ++ [p] ++ List.drop k out).Pairwise (· ≤ ·) := by
  rw [List.append_assoc, List.pairwise_append]
  refine ⟨h.sublist (List.take_sublist _ _), ?_, ?_⟩
  · show (p :: List.drop k out).Pairwise _
    refine List.Pairwise.cons (fun x hx => ?_) (h.sublist (List.drop_sublist _ _))
    obtain ⟨j, j1, j2, rfl⟩ := i9 hx
    have := h1 j j1 j2; omega
  · intro x hx y hy
    obtain ⟨j, j1, j2, rfl⟩ := tQ hx
    have h3 : List.getD out j 0 ≤ p := by
      rcases h2 with h2 | h2
      · omega
      · have := k8c h (show j ≤ k - 1 by omega) (show k - 1 < out.length by omega); omega
    rcases List.mem_cons.1 (show y ∈ p :: List.drop k out from hy) with rfl | hy
    · exact h3
    · obtain ⟨q, q1, q2, rfl⟩ := i9 hy
      have := h1 q q1 q2; omega
theorem k4f (out : List Int) (k : Nat) (p : Int) : (List.take k out ++ [p] ++ List.drop k out).Perm (out ++ [p]) := by
  rw [List.append_assoc]
  refine (List.Perm.append_left _ List.perm_append_comm).trans ?_
  rw [← List.append_assoc, List.take_append_drop]
theorem SO.step {m out q : List Int} {i k : Nat} {p : Int} (h : SO m i out) (hi : i < m.length) (hp : p = List.getD m i 0) (hk : k ≤ out.length) (h1 : ∀ j, k ≤ j → j < out.length → p < List.getD out j 0) (h2 : k = 0 ∨ List.getD out (k - 1) 0 ≤ p) (hq : q = List.take k out ++ [p] ++ List.drop k out) : SO m (i + 1) q := by
  unfold SO at *
  have hs : out.Pairwise (· ≤ ·) := by rw [h]; exact k2x _
  rw [hq]
  refine k17 ?_ (xP hs hk h1 h2) (k2x _)
  refine (k4f out k p).trans ?_
  rw [cL hi, ← hp]
  refine List.Perm.trans ?_ (lM _).symm
  rw [h]
  exact (lM _).append_right _
/-! what two lists have in common -/
def coL (a b : List Int) (n : Nat) : List Int := a.filter fun x => decide (0 ≤ uB b x n)
theorem k93 (a b : List Int) (n : Nat) : (coL a b n).length ≤ a.length := List.length_filter_le _ _
def CO (a b : List Int) (n i : Nat) (out : List Int) : Prop := out = coL (List.take i a) b n
theorem CO.zero (a b : List Int) (n : Nat) : CO a b n 0 [] := rfl
theorem CO.y {a b out : List Int} {n i : Nat} {x : Int} (h : CO a b n i out) (hi : i < a.length) (hx : x = List.getD a i 0) (h1 : 0 ≤ uB b (List.getD a i 0) n) : CO a b n (i + 1) (out ++ [x]) := by
  unfold CO coL at *
  rw [cL hi, List.filter_append, ← h, hx]
  congr 1
  rw [List.filter_cons_of_pos (p := fun x => decide (0 ≤ uB b x n)) (a := List.getD a i 0) (decide_eq_true h1)]; rfl
theorem CO.n {a b out : List Int} {n i : Nat} (h : CO a b n i out) (hi : i < a.length) (h1 : ¬ 0 ≤ uB b (List.getD a i 0) n) : CO a b n (i + 1) out := by
  unfold CO coL at *
  rw [cL hi, List.filter_append, ← h]
  have : List.filter (fun x => decide (0 ≤ uB b x n)) [List.getD a i 0] = [] := by
    rw [List.filter_cons_of_neg (by rw [decide_eq_true_iff]; exact h1)]; rfl
  rw [this, List.append_nil]
theorem CO.fin {a b out : List Int} {n i : Nat} (h : CO a b n i out) (hi : a.length ≤ i) : out = coL a b n := by
  unfold CO at h; rw [List.take_of_length_le hi] at h; exact h
theorem CO.len {a b out : List Int} {n i : Nat} (h : CO a b n i out) (hi : i ≤ a.length) : out.length ≤ i := by
  unfold CO at h; rw [h]
  have := k93 (List.take i a) b n
  rw [List.length_take] at this; omega
/-! the same -/
def eE (a b : List Int) : Bool := decide (a = b)
theorem u1b {a b : List Int} (h : a = b) : eE a b = true := decide_eq_true h
theorem k2y {a b : List Int} (h : ¬ a = b) : eE a b = false := decide_eq_false h
theorem u1d {a b : List Int} (h : eE a b = true) : a = b := of_decide_eq_true h
theorem u1c {a b : List Int} (h : eE a b = false) : ¬ a = b := of_decide_eq_false h
theorem nP {a b : List Int} (h : a.length = b.length) (h2 : ∀ j, j < a.length → List.getD a j 0 = List.getD b j 0) : eE a b = true := by
  refine u1b (List.ext_getElem h fun i h1 h3 => ?_)
  have := h2 i h1
  rw [List.getD_eq_getElem?_getD, List.getElem?_eq_getElem h1, List.getD_eq_getElem?_getD, List.getElem?_eq_getElem h3] at this
  exact this
theorem nR {a b : List Int} (h : ¬ a.length = b.length) : eE a b = false := k2y fun e => h (by rw [e])
theorem nQ {a b : List Int} {k : Nat} (h : ¬ List.getD a k 0 = List.getD b k 0) : eE a b = false := k2y fun e => h (by rw [e])
end Go.Proofs.Ytdbjebdomdnbkaa
namespace Go.Proofs.Ytdbjebdomdnbkaa
open Go.ChangeShapes Go.WideShapes Go.ChangeAt Go.RowKit
set_option linter.unusedVariables false
set_option linter.unusedSimpArgs false
set_option maxHeartbeats 4000000
set_option maxRecDepth 100000
theorem dO {p : Prop} (h : p := by first | omega | assumption | simp) : p := h
theorem cJ {p : Prop} (h : p := by first | omega | (simp only [u2, k7d, z3, qM, List.length_append, List.length_cons, List.length_nil, List.length_take, List.length_drop, List.length_replicate, List.length_set, List.length_map, List.length_reverse, Nat.mul_one] <;> omega) | rfl) : p := h
theorem nL {p : Prop} (h : p := by first | rfl | omega | assumption | (simp; done) | (simp; omega)) : p := h
theorem nK {p : Prop} (h : p := by first | omega | (show _ < _; simp; omega)) : p := h
theorem k6p (l : List Int) (n : Nat) (v : Int) (hn : List.length l = n) (hm : n ≤ 1000000) : Fun 93 [.c (.d (D.sl (dI .i64 l) n)), iE v] (kF []) 0 (iV (uB l v n)) (kF []) 0 := by
 refine Fun.mk (n := 19) Try.func93 rfl rfl (Nat.le_of_ble_eq_true rfl) ?_
 intro cx hcx
 refine kI [.no] True [(0, sV .i64 l n), (1, iV v)] [] 0 trivial ?_
 refine AW.seq ?_
 refine k8 [.no, .no, .no] True [(0, sV .i64 l n), (1, iV v), (7, uV n), (8, iV 0)] trivial ?_
 refine AW.block ?_
 refine kX 0 hcx (fun (x : {x : Nat // match x with | k => (k ≤ n) ∧ (uB l v k = -1)}) => match x with | ⟨k, _⟩ => (⟨[(0, sV .i64 l n), (1, iV v), (7, uV n), (8, uV k)], [], 0⟩ : ES)) (fun x => match x with | ⟨k, _⟩ => n - k) ⟨(0 : Nat), ⟨dO, rfl⟩⟩ [] (P := (kZ (dI .i64 l)) ∧ (kP n) ∧ (kN v) ∧ (kN (n : Int)) ∧ (kN 0)) zk ⟨rfl, rfl, rfl, rfl, rfl⟩ ?_
 rintro ⟨k, hinv0⟩
 obtain ⟨hk, hi⟩ : (k ≤ n) ∧ (uB l v k = -1) := hinv0
 refine qU (l := [(0, sV .i64 l n), (1, iV v), (7, uV n), (8, uV k)]) (g := []) (nx := 0) rfl rfl rfl ?_
 by_cases hx1 : (((k : Nat) : Int) < ((n : Nat) : Int))
 ·refine kI [.b true] (((k : Int) < (n : Int))) [(0, sV .i64 l n), (1, iV v), (7, uV n), (8, uV k), (9, bV true)] [] 0 zo ?_
  refine AW.seq ?_
  refine vD ?_
  refine AW.seq ?_
  refine AW.block ?_
  refine k8 [.no, .no] True [(0, sV .i64 l n), (1, iV v), (5, uV k), (7, uV n), (8, uV k)] trivial ?_
  by_cases hx2 : (v = (List.getD l k 0))
  ·refine k8 [.no, .no, .no, .n k, .d (D.lit (.int .i64 (List.getD l k 0))), .b true] ((kN (k : Int)) ∧ (k < n) ∧ ((List.drop k (dI .i64 l))[0]? = some (D.lit (.int .i64 (List.getD l k 0)))) ∧ ((v = (List.getD l k 0)))) [(0, sV .i64 l n), (1, iV v), (5, uV k), (7, uV n), (8, uV k), (16, bV true)] ⟨rfl, zo, (qW _ _ _ cJ), zo⟩ ?_
   refine zt ?_
   refine k8 [.no, .no] True [(4, uV k)] trivial ?_
   refine AW.ret ?_
   exact kC (.inr rfl) [] (P := (((uB l v n) : Int) = (k : Int))) zk (by first | rfl | exact cT hi zo n zo | (rw [show n = k by omega]; exact hi))
  ·refine k8 [.no, .no, .no, .n k, .d (D.lit (.int .i64 (List.getD l k 0))), .b false] ((kN (k : Int)) ∧ (k < n) ∧ ((List.drop k (dI .i64 l))[0]? = some (D.lit (.int .i64 (List.getD l k 0)))) ∧ (¬ (v = (List.getD l k 0)))) [(0, sV .i64 l n), (1, iV v), (5, uV k), (7, uV n), (8, uV k), (16, bV false)] ⟨rfl, zo, (qW _ _ _ cJ), zo⟩ ?_
   refine yC ?_
   refine yD [.w, .no] (qJ ((k : Int) + 1)) [(0, sV .i64 l n), (1, iV v), (7, uV n), (8, iV (↑k + 1))] ⟨by omega, by omega⟩ ?_
   exact qE ⟨((k + 1) : Nat), ⟨dO, (iT hi zo)⟩⟩ [] (P := (kZ (dI .i64 l)) ∧ (kP n) ∧ (kN v) ∧ (kN (n : Int)) ∧ (((((k + 1) : Nat) : Int) : Int) = ((k : Int) + 1))) zk ⟨rfl, rfl, rfl, rfl, nL⟩ (show n - (k + 1) < n - k from nK)
 ·refine kI [.b false] (¬ ((k : Int) < (n : Int))) [(0, sV .i64 l n), (1, iV v), (7, uV n), (8, uV k), (9, bV false)] [] 0 zo ?_
  refine AW.seq ?_
  refine zf ?_
  refine AW.exit ?_
  refine kI [.no] True [(4, iV (-1))] [] 0 trivial ?_
  refine AW.ret ?_
  exact kC (.inr rfl) [] (P := (((uB l v n) : Int) = (-1))) zk (by first | rfl | exact cT hi zo n zo | (rw [show n = k by omega]; exact hi))
theorem wM (l : List Int) (n : Nat) (v : Int) (hn : List.length l = n) (hm : n ≤ 1000000) : Fun 78 [.c (.d (D.sl (dI .i64 l) n)), iE v] (kF []) 0 (iV (uB l v n)) (kF []) 0 := by
 refine Fun.mk (n := 19) Try.func78 rfl rfl (Nat.le_of_ble_eq_true rfl) ?_
 intro cx hcx
 refine kI [.no] True [(0, sV .i64 l n), (1, iV v)] [] 0 trivial ?_
 refine AW.seq ?_
 refine k8 [.no, .no, .no] True [(1, iV v), (7, sV .i64 l n), (8, uV n), (9, iV 0)] trivial ?_
 refine AW.block ?_
 refine kX 0 hcx (fun (x : {x : Nat // match x with | k => (k ≤ n) ∧ (uB l v k = -1)}) => match x with | ⟨k, _⟩ => (⟨[(1, iV v), (7, sV .i64 l n), (8, uV n), (9, uV k)], [], 0⟩ : ES)) (fun x => match x with | ⟨k, _⟩ => n - k) ⟨(0 : Nat), ⟨dO, rfl⟩⟩ [] (P := (kN v) ∧ (kZ (dI .i64 l)) ∧ (kP n) ∧ (kN (n : Int)) ∧ (kN 0)) zk ⟨rfl, rfl, rfl, rfl, rfl⟩ ?_
 rintro ⟨k, hinv0⟩
 obtain ⟨hk, hi⟩ : (k ≤ n) ∧ (uB l v k = -1) := hinv0
 refine qU (l := [(1, iV v), (7, sV .i64 l n), (8, uV n), (9, uV k)]) (g := []) (nx := 0) rfl rfl rfl ?_
 by_cases hx1 : (((k : Nat) : Int) < ((n : Nat) : Int))
 ·refine kI [.b true] (((k : Int) < (n : Int))) [(1, iV v), (7, sV .i64 l n), (8, uV n), (9, uV k), (10, bV true)] [] 0 zo ?_
  refine AW.seq ?_
  refine vD ?_
  refine AW.seq ?_
  refine AW.block ?_
  refine k8 [.no, .n k, .d (D.lit (.int .i64 (List.getD l k 0))), .no, .no] ((kN (k : Int)) ∧ (k < n) ∧ ((List.drop k (dI .i64 l))[0]? = some (D.lit (.int .i64 (List.getD l k 0))))) [(1, iV v), (5, uV k), (6, iV (List.getD l k 0)), (7, sV .i64 l n), (8, uV n), (9, uV k)] ⟨rfl, zo, (qW _ _ _ cJ)⟩ ?_
  by_cases hx2 : ((List.getD l k 0) = v)
  ·refine k8 [.no, .no, .b true] (((List.getD l k 0) = v)) [(1, iV v), (5, uV k), (7, sV .i64 l n), (8, uV n), (9, uV k), (16, bV true)] zo ?_
   refine zt ?_
   refine k8 [.no, .no] True [(4, uV k)] trivial ?_
   refine AW.ret ?_
   exact kC (.inr rfl) [] (P := (((uB l v n) : Int) = (k : Int))) zk (by first | rfl | exact cT hi zo n zo | (rw [show n = k by omega]; exact hi))
  ·refine k8 [.no, .no, .b false] (¬ ((List.getD l k 0) = v)) [(1, iV v), (5, uV k), (7, sV .i64 l n), (8, uV n), (9, uV k), (16, bV false)] zo ?_
   refine yC ?_
   refine yD [.w, .no] (qJ ((k : Int) + 1)) [(1, iV v), (7, sV .i64 l n), (8, uV n), (9, iV (↑k + 1))] ⟨by omega, by omega⟩ ?_
   exact qE ⟨((k + 1) : Nat), ⟨dO, (iT hi zo)⟩⟩ [] (P := (kN v) ∧ (kZ (dI .i64 l)) ∧ (kP n) ∧ (kN (n : Int)) ∧ (((((k + 1) : Nat) : Int) : Int) = ((k : Int) + 1))) zk ⟨rfl, rfl, rfl, rfl, nL⟩ (show n - (k + 1) < n - k from nK)
 ·refine kI [.b false] (¬ ((k : Int) < (n : Int))) [(1, iV v), (7, sV .i64 l n), (8, uV n), (9, uV k), (10, bV false)] [] 0 zo ?_
  refine AW.seq ?_
  refine zf ?_
  refine AW.exit ?_
  refine kI [.no] True [(4, iV (-1))] [] 0 trivial ?_
  refine AW.ret ?_
  exact kC (.inr rfl) [] (P := (((uB l v n) : Int) = (-1))) zk (by first | rfl | exact cT hi zo n zo | (rw [show n = k by omega]; exact hi))
theorem k0z (l : List Int) (n : Nat) (v : Int) (hn : List.length l = n) (hm : n ≤ 1000000) : Fun 88 [.c (.d (D.sl (dI .i64 l) n)), iE v] (kF []) 0 (iV (uB l v n)) (kF []) 0 := by
 refine Fun.mk (n := 8) Try.func88 rfl rfl (Nat.le_of_ble_eq_true rfl) ?_
 intro cx hcx
 refine kI [.no] True [(0, sV .i64 l n), (1, iV v)] [] 0 trivial ?_
 have hx1 : ((((-1) : Int) ≤ (uB l v n)) ∧ ((uB l v n) < ((n : Nat) : Int))) := cS l v n
 refine k8 [.no, .no, .call [] (iV (uB l v n)) [] 0 [] none, .no] _ [(4, iV (uB l v n))] (k6p l n v zo zo) ?_
 refine AW.ret ?_
 exact kC (.inr rfl) [] (P := (kN (uB l v n))) zk rfl
theorem sY {p : Prop} (h : p := by first | rfl | assumption | exact decide_eq_true (by omega) | exact decide_eq_false (by omega) | (simp; omega)) : p := h
theorem k6q (p : Int)  : Fun 87 [iE p] (kF []) 0 (kS (D.lit (.bool (decide (1 ≤ p ∧ p ≤ 8))))) (kF []) 0 := by
 refine Fun.mk (n := 9) Try.func87 rfl rfl (Nat.le_of_ble_eq_true rfl) ?_
 intro cx hcx
 refine kI [.no] True [(0, iV p)] [] 0 trivial ?_
 by_cases hx1 : ((1 : Int) ≤ p)
 ·by_cases hx2 : (p ≤ 8)
  ·refine k8 [.no, .b true, .no, .no, .b true, .no, .no] ((((1 : Int) ≤ p)) ∧ ((p ≤ 8))) [(2, bV true)] ⟨zo, zo⟩ ?_
   refine AW.ret ?_
   exact kC (.inr rfl) [] (P := ((decide (1 ≤ p ∧ p ≤ 8)) = true)) zk sY
  ·refine k8 [.no, .b true, .no, .no, .b false, .no, .no] ((((1 : Int) ≤ p)) ∧ (¬ (p ≤ 8))) [(2, bV false)] ⟨zo, zo⟩ ?_
   refine AW.ret ?_
   exact kC (.inr rfl) [] (P := ((decide (1 ≤ p ∧ p ≤ 8)) = false)) zk sY
 ·refine k8 [.no, .b false, .no, .no, .no] (¬ ((1 : Int) ≤ p)) [(2, bV false)] zo ?_
  refine AW.ret ?_
  exact kC (.inr rfl) [] (P := ((decide (1 ≤ p ∧ p ≤ 8)) = false)) zk sY
theorem sH (l : List Int) (n : Nat) (hn : List.length l = n) (hm : n ≤ 1000000) : Fun 76 [.c (.d (D.sl (dI .i64 l) n))] (kF []) 0 (kS (D.lit (.bool (f9 l n)))) (kF []) 0 := by
 refine Fun.mk (n := 31) Try.func76 rfl rfl (Nat.le_of_ble_eq_true rfl) ?_
 intro cx hcx
 refine kI [.no] True [(0, sV .i64 l n)] [] 0 trivial ?_
 refine AW.seq ?_
 by_cases hx1 : (((n : Nat) : Int) < 1)
 ·refine k8 [.no, .no, .b true, .no, .no] (((n : Int) < 1)) [(0, sV .i64 l n), (12, bV true)] zo ?_
  refine zt ?_
  refine k8 [.no] True [(2, bV false)] trivial ?_
  refine AW.ret ?_
  exact kC (.inr rfl) [] (P := ((f9 l n) = false)) zk (by first | exact dU zo (fun j hj => ha j zo) | exact eO zo | exact eN (k := k) zo (decide_eq_false zo))
 ·by_cases hx2 : ((8 : Int) < ((n : Nat) : Int))
  ·refine k8 [.no, .no, .b false, .no, .no, .no, .b true, .no] ((¬ ((n : Int) < 1)) ∧ (((8 : Int) < (n : Int)))) [(0, sV .i64 l n), (12, bV true)] ⟨zo, zo⟩ ?_
   refine zt ?_
   refine k8 [.no] True [(2, bV false)] trivial ?_
   refine AW.ret ?_
   exact kC (.inr rfl) [] (P := ((f9 l n) = false)) zk (by first | exact dU zo (fun j hj => ha j zo) | exact eO zo | exact eN (k := k) zo (decide_eq_false zo))
  ·refine k8 [.no, .no, .b false, .no, .no, .no, .b false, .no] ((¬ ((n : Int) < 1)) ∧ (¬ ((8 : Int) < (n : Int)))) [(0, sV .i64 l n), (12, bV false)] ⟨zo, zo⟩ ?_
   refine yC ?_
   refine AW.seq ?_
   refine k8 [.no, .no, .no] True [(0, sV .i64 l n), (13, sV .i64 l n), (14, uV n), (15, iV 0)] trivial ?_
   refine AW.block ?_
   refine kX 0 hcx (fun (x : {x : Nat // match x with | k => (k ≤ n) ∧ (∀ j, j < k → chE l n j = true)}) => match x with | ⟨k, _⟩ => (⟨[(0, sV .i64 l n), (13, sV .i64 l n), (14, uV n), (15, uV k)], [], 0⟩ : ES)) (fun x => match x with | ⟨k, _⟩ => n - k) ⟨(0 : Nat), ⟨dO, (fun j hj => absurd hj (Nat.not_lt_zero j))⟩⟩ [] (P := (kZ (dI .i64 l)) ∧ (kP n) ∧ (kZ (dI .i64 l)) ∧ (kP n) ∧ (kN (n : Int)) ∧ (kN 0)) zk ⟨rfl, rfl, rfl, rfl, rfl, rfl⟩ ?_
   rintro ⟨k, hinv0⟩
   obtain ⟨hk, ha⟩ : (k ≤ n) ∧ (∀ j, j < k → chE l n j = true) := hinv0
   refine qU (l := [(0, sV .i64 l n), (13, sV .i64 l n), (14, uV n), (15, uV k)]) (g := []) (nx := 0) rfl rfl rfl ?_
   by_cases hx3 : (((k : Nat) : Int) < ((n : Nat) : Int))
   ·refine kI [.b true] (((k : Int) < (n : Int))) [(0, sV .i64 l n), (13, sV .i64 l n), (14, uV n), (15, uV k), (16, bV true)] [] 0 zo ?_
    refine AW.seq ?_
    refine vD ?_
    refine AW.seq ?_
    refine AW.block ?_
    refine k8 [.no, .n k, .d (D.lit (.int .i64 (List.getD l k 0))), .no, .no] ((kN (k : Int)) ∧ (k < n) ∧ ((List.drop k (dI .i64 l))[0]? = some (D.lit (.int .i64 (List.getD l k 0))))) [(0, sV .i64 l n), (3, uV k), (4, iV (List.getD l k 0)), (13, sV .i64 l n), (14, uV n), (15, uV k)] ⟨rfl, zo, (qW _ _ _ cJ)⟩ ?_
    rcases Bool.eq_false_or_eq_true (decide (1 ≤ (List.getD l k 0) ∧ (List.getD l k 0) ≤ 8)) with hx4 | hx4
    ·have hx5 : (((1 : Int) ≤ (List.getD l k 0)) ∧ ((List.getD l k 0) ≤ 8)) := of_decide_eq_true hx4
     by_cases hx7 : ((uB l (List.getD l k 0) n) ≠ ((k : Nat) : Int))
     ·have hx8 : ((((-1) : Int) ≤ (uB l (List.getD l k 0) n)) ∧ ((uB l (List.getD l k 0) n) < ((n : Nat) : Int))) := cS l (List.getD l k 0) n
      refine k8 (.no :: .call [] (bV true) [] 0 [] none :: kJ 4 [.call [] (iV (uB l (List.getD l k 0) n)) [] 0 [] none, .no, .b true, .no]) ((Fun 87 [iE (List.getD l k 0)] (kF []) 0 (bV true) (kF []) 0) ∧ (_) ∧ (((uB l (List.getD l k 0) n) ≠ (k : Int)))) [(0, sV .i64 l n), (13, sV .i64 l n), (14, uV n), (15, uV k), (29, bV true)] ⟨(by have h0 := (k6q (List.getD l k 0)); rw [hx4] at h0; exact h0), (k0z l n (List.getD l k 0) zo zo), zo⟩ ?_
      refine zt ?_
      refine k8 [.no] True [(2, bV false)] trivial ?_
      refine AW.ret ?_
      exact kC (.inr rfl) [] (P := ((f9 l n) = false)) zk (by first | exact dU zo (fun j hj => ha j zo) | exact eO zo | exact eN (k := k) zo (decide_eq_false zo))
     ·have hx9 : ((((-1) : Int) ≤ (uB l (List.getD l k 0) n)) ∧ ((uB l (List.getD l k 0) n) < ((n : Nat) : Int))) := cS l (List.getD l k 0) n
      refine k8 (.no :: .call [] (bV true) [] 0 [] none :: kJ 4 [.call [] (iV (uB l (List.getD l k 0) n)) [] 0 [] none, .no, .b false, .no]) ((Fun 87 [iE (List.getD l k 0)] (kF []) 0 (bV true) (kF []) 0) ∧ (_) ∧ (¬ ((uB l (List.getD l k 0) n) ≠ (k : Int)))) [(0, sV .i64 l n), (13, sV .i64 l n), (14, uV n), (15, uV k), (29, bV false)] ⟨(by have h0 := (k6q (List.getD l k 0)); rw [hx4] at h0; exact h0), (k0z l n (List.getD l k 0) zo zo), zo⟩ ?_
      refine yC ?_
      refine yD [.w, .no] (qJ ((k : Int) + 1)) [(0, sV .i64 l n), (13, sV .i64 l n), (14, uV n), (15, iV (↑k + 1))] ⟨by omega, by omega⟩ ?_
      exact qE ⟨((k + 1) : Nat), ⟨dO, (fun j hj => (Nat.lt_succ_iff_lt_or_eq.1 hj).elim (ha j) (fun e9 => by subst e9; exact decide_eq_true zo))⟩⟩ [] (P := (kZ (dI .i64 l)) ∧ (kP n) ∧ (kZ (dI .i64 l)) ∧ (kP n) ∧ (kN (n : Int)) ∧ (((((k + 1) : Nat) : Int) : Int) = ((k : Int) + 1))) zk ⟨rfl, rfl, rfl, rfl, rfl, nL⟩ (show n - (k + 1) < n - k from nK)
    ·have hx10 : ¬ (((1 : Int) ≤ (List.getD l k 0)) ∧ ((List.getD l k 0) ≤ 8)) := of_decide_eq_false hx4
     refine k8 [.no, .call [] (bV false) [] 0 [] none, .no, .no, .no] (Fun 87 [iE (List.getD l k 0)] (kF []) 0 (bV false) (kF []) 0) [(0, sV .i64 l n), (13, sV .i64 l n), (14, uV n), (15, uV k), (29, bV true)] (by have h0 := (k6q (List.getD l k 0)); rw [hx4] at h0; exact h0) ?_
     refine zt ?_
     refine k8 [.no] True [(2, bV false)] trivial ?_
     refine AW.ret ?_
     exact kC (.inr rfl) [] (P := ((f9 l n) = false)) zk (by first | exact dU zo (fun j hj => ha j zo) | exact eO zo | exact eN (k := k) zo (decide_eq_false zo))
   ·refine kI [.b false] (¬ ((k : Int) < (n : Int))) [(0, sV .i64 l n), (13, sV .i64 l n), (14, uV n), (15, uV k), (16, bV false)] [] 0 zo ?_
    refine AW.seq ?_
    refine zf ?_
    refine AW.exit ?_
    refine kI [.no] True [(2, bV true)] [] 0 trivial ?_
    refine AW.ret ?_
    exact kC (.inr rfl) [] (P := ((f9 l n) = true)) zk (by first | exact dU zo (fun j hj => ha j zo) | exact eO zo | exact eN (k := k) zo (decide_eq_false zo))
theorem mN (l : List Int) (n : Nat) (hn : List.length l = n) (hm : n ≤ 1000000) : Fun 64 [.c (.d (D.sl (dI .i64 l) n))] (kF []) 0 (kS (D.lit (.bool (f9 l n)))) (kF []) 0 := by
 refine Fun.mk (n := 34) Try.func64 rfl rfl (Nat.le_of_ble_eq_true rfl) ?_
 intro cx hcx
 refine kI [.no] True [(0, sV .i64 l n)] [] 0 trivial ?_
 refine AW.seq ?_
 refine k8 [.no, .no, .no] True [(0, sV .i64 l n), (5, sV .i64 l n), (6, uV n), (7, iV 0)] trivial ?_
 refine AW.block ?_
 refine kX 0 hcx (fun (x : {x : Nat // match x with | k => (k ≤ n) ∧ (∀ j, j < k → chE l n j = true)}) => match x with | ⟨k, _⟩ => (⟨[(0, sV .i64 l n), (5, sV .i64 l n), (6, uV n), (7, uV k)], [], 0⟩ : ES)) (fun x => match x with | ⟨k, _⟩ => n - k) ⟨(0 : Nat), ⟨dO, (fun j hj => absurd hj (Nat.not_lt_zero j))⟩⟩ [] (P := (kZ (dI .i64 l)) ∧ (kP n) ∧ (kZ (dI .i64 l)) ∧ (kP n) ∧ (kN (n : Int)) ∧ (kN 0)) zk ⟨rfl, rfl, rfl, rfl, rfl, rfl⟩ ?_
 rintro ⟨k, hinv0⟩
 obtain ⟨hk, ha⟩ : (k ≤ n) ∧ (∀ j, j < k → chE l n j = true) := hinv0
 refine qU (l := [(0, sV .i64 l n), (5, sV .i64 l n), (6, uV n), (7, uV k)]) (g := []) (nx := 0) rfl rfl rfl ?_
 by_cases hx1 : (((k : Nat) : Int) < ((n : Nat) : Int))
 ·refine kI [.b true] (((k : Int) < (n : Int))) [(0, sV .i64 l n), (5, sV .i64 l n), (6, uV n), (7, uV k), (8, bV true)] [] 0 zo ?_
  refine AW.seq ?_
  refine vD ?_
  refine AW.seq ?_
  refine AW.block ?_
  refine k8 [.no, .n k, .d (D.lit (.int .i64 (List.getD l k 0))), .no, .no] ((kN (k : Int)) ∧ (k < n) ∧ ((List.drop k (dI .i64 l))[0]? = some (D.lit (.int .i64 (List.getD l k 0))))) [(0, sV .i64 l n), (3, uV k), (4, iV (List.getD l k 0)), (5, sV .i64 l n), (6, uV n), (7, uV k)] ⟨rfl, zo, (qW _ _ _ cJ)⟩ ?_
  by_cases hx2 : ((List.getD l k 0) < 1)
  ·refine k8 (.no :: .b true :: kJ 4 []) (((List.getD l k 0) < 1)) [(0, sV .i64 l n), (5, sV .i64 l n), (6, uV n), (7, uV k), (24, bV true)] zo ?_
   refine zt ?_
   refine k8 [.no] True [(2, bV false)] trivial ?_
   refine AW.ret ?_
   exact kC (.inr rfl) [] (P := ((f9 l n) = false)) zk (by first | exact dU zo (fun j hj => ha j zo) | exact eO zo | exact eN (k := k) zo (decide_eq_false zo))
  ·by_cases hx3 : ((8 : Int) < (List.getD l k 0))
   ·refine k8 [.no, .b false, .no, .no, .b true, .no, .no, .no] ((¬ ((List.getD l k 0) < 1)) ∧ (((8 : Int) < (List.getD l k 0)))) [(0, sV .i64 l n), (5, sV .i64 l n), (6, uV n), (7, uV k), (24, bV true)] ⟨zo, zo⟩ ?_
    refine zt ?_
    refine k8 [.no] True [(2, bV false)] trivial ?_
    refine AW.ret ?_
    exact kC (.inr rfl) [] (P := ((f9 l n) = false)) zk (by first | exact dU zo (fun j hj => ha j zo) | exact eO zo | exact eN (k := k) zo (decide_eq_false zo))
   ·by_cases hx5 : ((uB l (List.getD l k 0) n) ≠ ((k : Nat) : Int))
    ·have hx6 : ((((-1) : Int) ≤ (uB l (List.getD l k 0) n)) ∧ ((uB l (List.getD l k 0) n) < ((n : Nat) : Int))) := cS l (List.getD l k 0) n
     refine k8 (.no :: .b false :: .no :: .no :: .b false :: kJ 4 [.call [] (iV (uB l (List.getD l k 0) n)) [] 0 [] none, .no, .b true, .no]) ((¬ ((List.getD l k 0) < 1)) ∧ (¬ ((8 : Int) < (List.getD l k 0))) ∧ (_) ∧ (((uB l (List.getD l k 0) n) ≠ (k : Int)))) [(0, sV .i64 l n), (5, sV .i64 l n), (6, uV n), (7, uV k), (24, bV true)] ⟨zo, zo, (wM l n (List.getD l k 0) zo zo), zo⟩ ?_
     refine zt ?_
     refine k8 [.no] True [(2, bV false)] trivial ?_
     refine AW.ret ?_
     exact kC (.inr rfl) [] (P := ((f9 l n) = false)) zk (by first | exact dU zo (fun j hj => ha j zo) | exact eO zo | exact eN (k := k) zo (decide_eq_false zo))
    ·have hx7 : ((((-1) : Int) ≤ (uB l (List.getD l k 0) n)) ∧ ((uB l (List.getD l k 0) n) < ((n : Nat) : Int))) := cS l (List.getD l k 0) n
     refine k8 (.no :: .b false :: .no :: .no :: .b false :: kJ 4 [.call [] (iV (uB l (List.getD l k 0) n)) [] 0 [] none, .no, .b false, .no]) ((¬ ((List.getD l k 0) < 1)) ∧ (¬ ((8 : Int) < (List.getD l k 0))) ∧ (_) ∧ (¬ ((uB l (List.getD l k 0) n) ≠ (k : Int)))) [(0, sV .i64 l n), (5, sV .i64 l n), (6, uV n), (7, uV k), (24, bV false)] ⟨zo, zo, (wM l n (List.getD l k 0) zo zo), zo⟩ ?_
     refine yC ?_
     refine yD [.w, .no] (qJ ((k : Int) + 1)) [(0, sV .i64 l n), (5, sV .i64 l n), (6, uV n), (7, iV (↑k + 1))] ⟨by omega, by omega⟩ ?_
     exact qE ⟨((k + 1) : Nat), ⟨dO, (fun j hj => (Nat.lt_succ_iff_lt_or_eq.1 hj).elim (ha j) (fun e9 => by subst e9; exact decide_eq_true zo))⟩⟩ [] (P := (kZ (dI .i64 l)) ∧ (kP n) ∧ (kZ (dI .i64 l)) ∧ (kP n) ∧ (kN (n : Int)) ∧ (((((k + 1) : Nat) : Int) : Int) = ((k : Int) + 1))) zk ⟨rfl, rfl, rfl, rfl, rfl, nL⟩ (show n - (k + 1) < n - k from nK)
 ·refine kI [.b false] (¬ ((k : Int) < (n : Int))) [(0, sV .i64 l n), (5, sV .i64 l n), (6, uV n), (7, uV k), (8, bV false)] [] 0 zo ?_
  refine AW.seq ?_
  refine zf ?_
  refine AW.exit ?_
  by_cases hx8 : ((1 : Int) ≤ ((n : Nat) : Int))
  ·by_cases hx9 : (((n : Nat) : Int) ≤ 8)
   ·refine kI [.no, .no, .b true, .no, .no, .no, .b true, .no, .no] ((((1 : Int) ≤ (n : Int))) ∧ (((n : Int) ≤ 8))) [(2, bV true)] [] 0 ⟨zo, zo⟩ ?_
    refine AW.ret ?_
    exact kC (.inr rfl) [] (P := ((f9 l n) = true)) zk (by first | exact dU zo (fun j hj => ha j zo) | exact eO zo | exact eN (k := k) zo (decide_eq_false zo))
   ·refine kI [.no, .no, .b true, .no, .no, .no, .b false, .no, .no] ((((1 : Int) ≤ (n : Int))) ∧ (¬ ((n : Int) ≤ 8))) [(2, bV false)] [] 0 ⟨zo, zo⟩ ?_
    refine AW.ret ?_
    exact kC (.inr rfl) [] (P := ((f9 l n) = false)) zk (by first | exact dU zo (fun j hj => ha j zo) | exact eO zo | exact eN (k := k) zo (decide_eq_false zo))
  ·refine kI [.no, .no, .b false, .no, .no, .no] (¬ ((1 : Int) ≤ (n : Int))) [(2, bV false)] [] 0 zo ?_
   refine AW.ret ?_
   exact kC (.inr rfl) [] (P := ((f9 l n) = false)) zk (by first | exact dU zo (fun j hj => ha j zo) | exact eO zo | exact eN (k := k) zo (decide_eq_false zo))
theorem wL (a b : List Int) (n m : Nat) (hn : List.length a = n) (hm : List.length b = m) (h2 : n ≤ 1000000) (h3 : m ≤ 1000000) : Fun 95 [.c (.d (D.sl (dI .i64 a) n)), .c (.d (D.sl (dI .i64 b) m))] (kF []) 0 (kS (D.lit (.bool (eE a b)))) (kF []) 0 := by
 refine Fun.mk (n := 26) Try.func95 rfl rfl (Nat.le_of_ble_eq_true rfl) ?_
 intro cx hcx
 refine kI [.no] True [(0, sV .i64 a n), (1, sV .i64 b m)] [] 0 trivial ?_
 refine AW.seq ?_
 by_cases hx1 : (((n : Nat) : Int) ≠ ((m : Nat) : Int))
 ·refine k8 (kJ 4 [.b true]) (((n : Int) ≠ (m : Int))) [(0, sV .i64 a n), (1, sV .i64 b m), (10, bV true)] zo ?_
  refine zt ?_
  refine k8 [.no] True [(4, bV false)] trivial ?_
  refine AW.ret ?_
  exact kC (.inr rfl) [] (P := ((eE a b) = false)) zk (by first | exact nR zo | exact nQ (k := k) zo | exact nP zo (fun j hj => ha j zo))
 ·refine k8 (kJ 4 [.b false]) (¬ ((n : Int) ≠ (m : Int))) [(0, sV .i64 a n), (1, sV .i64 b m), (10, bV false)] zo ?_
  refine yC ?_
  refine AW.seq ?_
  refine k8 [.no, .no, .no] True [(0, sV .i64 a n), (1, sV .i64 b m), (12, uV n), (13, iV 0)] trivial ?_
  refine AW.block ?_
  refine kX 0 hcx (fun (x : {x : Nat // match x with | k => (k ≤ n) ∧ (∀ j, j < k → List.getD a j 0 = List.getD b j 0)}) => match x with | ⟨k, _⟩ => (⟨[(0, sV .i64 a n), (1, sV .i64 b m), (12, uV n), (13, uV k)], [], 0⟩ : ES)) (fun x => match x with | ⟨k, _⟩ => n - k) ⟨(0 : Nat), ⟨dO, (fun j hj => absurd hj (Nat.not_lt_zero j))⟩⟩ [] (P := (kZ (dI .i64 a)) ∧ (kP n) ∧ (kZ (dI .i64 b)) ∧ (kP m) ∧ (kN (n : Int)) ∧ (kN 0)) zk ⟨rfl, rfl, rfl, rfl, rfl, rfl⟩ ?_
  rintro ⟨k, hinv0⟩
  obtain ⟨hk, ha⟩ : (k ≤ n) ∧ (∀ j, j < k → List.getD a j 0 = List.getD b j 0) := hinv0
  refine qU (l := [(0, sV .i64 a n), (1, sV .i64 b m), (12, uV n), (13, uV k)]) (g := []) (nx := 0) rfl rfl rfl ?_
  by_cases hx2 : (((k : Nat) : Int) < ((n : Nat) : Int))
  ·refine kI [.b true] (((k : Int) < (n : Int))) [(0, sV .i64 a n), (1, sV .i64 b m), (12, uV n), (13, uV k), (14, bV true)] [] 0 zo ?_
   refine AW.seq ?_
   refine vD ?_
   refine AW.seq ?_
   refine AW.block ?_
   refine k8 [.no, .no] True [(0, sV .i64 a n), (1, sV .i64 b m), (5, uV k), (12, uV n), (13, uV k)] trivial ?_
   by_cases hx3 : ((List.getD a k 0) ≠ (List.getD b k 0))
   ·refine k8 [.no, .no, .n k, .d (D.lit (.int .i64 (List.getD a k 0))), .no, .no, .n k, .d (D.lit (.int .i64 (List.getD b k 0))), .b true] ((kN (k : Int)) ∧ (k < n) ∧ ((List.drop k (dI .i64 a))[0]? = some (D.lit (.int .i64 (List.getD a k 0)))) ∧ (kN (k : Int)) ∧ (k < m) ∧ ((List.drop k (dI .i64 b))[0]? = some (D.lit (.int .i64 (List.getD b k 0)))) ∧ (((List.getD a k 0) ≠ (List.getD b k 0)))) [(0, sV .i64 a n), (1, sV .i64 b m), (12, uV n), (13, uV k), (24, bV true)] ⟨rfl, zo, (qW _ _ _ cJ), rfl, zo, (qW _ _ _ cJ), zo⟩ ?_
    refine zt ?_
    refine k8 [.no] True [(4, bV false)] trivial ?_
    refine AW.ret ?_
    exact kC (.inr rfl) [] (P := ((eE a b) = false)) zk (by first | exact nR zo | exact nQ (k := k) zo | exact nP zo (fun j hj => ha j zo))
   ·refine k8 [.no, .no, .n k, .d (D.lit (.int .i64 (List.getD a k 0))), .no, .no, .n k, .d (D.lit (.int .i64 (List.getD b k 0))), .b false] ((kN (k : Int)) ∧ (k < n) ∧ ((List.drop k (dI .i64 a))[0]? = some (D.lit (.int .i64 (List.getD a k 0)))) ∧ (kN (k : Int)) ∧ (k < m) ∧ ((List.drop k (dI .i64 b))[0]? = some (D.lit (.int .i64 (List.getD b k 0)))) ∧ (¬ ((List.getD a k 0) ≠ (List.getD b k 0)))) [(0, sV .i64 a n), (1, sV .i64 b m), (12, uV n), (13, uV k), (24, bV false)] ⟨rfl, zo, (qW _ _ _ cJ), rfl, zo, (qW _ _ _ cJ), zo⟩ ?_
    refine yC ?_
    refine yD [.w, .no] (qJ ((k : Int) + 1)) [(0, sV .i64 a n), (1, sV .i64 b m), (12, uV n), (13, iV (↑k + 1))] ⟨by omega, by omega⟩ ?_
    exact qE ⟨((k + 1) : Nat), ⟨dO, (fun j hj => (Nat.lt_succ_iff_lt_or_eq.1 hj).elim (ha j) (fun e9 => by subst e9; omega))⟩⟩ [] (P := (kZ (dI .i64 a)) ∧ (kP n) ∧ (kZ (dI .i64 b)) ∧ (kP m) ∧ (kN (n : Int)) ∧ (((((k + 1) : Nat) : Int) : Int) = ((k : Int) + 1))) zk ⟨rfl, rfl, rfl, rfl, rfl, nL⟩ (show n - (k + 1) < n - k from nK)
  ·refine kI [.b false] (¬ ((k : Int) < (n : Int))) [(0, sV .i64 a n), (1, sV .i64 b m), (12, uV n), (13, uV k), (14, bV false)] [] 0 zo ?_
   refine AW.seq ?_
   refine zf ?_
   refine AW.exit ?_
   refine kI [.no] True [(4, bV true)] [] 0 trivial ?_
   refine AW.ret ?_
   exact kC (.inr rfl) [] (P := ((eE a b) = true)) zk (by first | exact nR zo | exact nQ (k := k) zo | exact nP zo (fun j hj => ha j zo))
theorem k0y (a b : List Int) (n m : Nat) (hn : List.length a = n) (hm : List.length b = m) (h2 : n ≤ 1000000) (h3 : m ≤ 1000000) : Fun 79 [.c (.d (D.sl (dI .i64 a) n)), .c (.d (D.sl (dI .i64 b) m))] (kF []) 0 (kS (D.lit (.bool (eE a b)))) (kF []) 0 := by
 refine Fun.mk (n := 26) Try.func79 rfl rfl (Nat.le_of_ble_eq_true rfl) ?_
 intro cx hcx
 refine kI [.no] True [(0, sV .i64 a n), (1, sV .i64 b m)] [] 0 trivial ?_
 refine AW.seq ?_
 by_cases hx1 : (((n : Nat) : Int) ≠ ((m : Nat) : Int))
 ·refine k8 (kJ 4 [.b true]) (((n : Int) ≠ (m : Int))) [(0, sV .i64 a n), (1, sV .i64 b m), (10, bV true)] zo ?_
  refine zt ?_
  refine k8 [.no] True [(4, bV false)] trivial ?_
  refine AW.ret ?_
  exact kC (.inr rfl) [] (P := ((eE a b) = false)) zk (by first | exact nR zo | exact nQ (k := k) zo | exact nP zo (fun j hj => ha j zo))
 ·refine k8 (kJ 4 [.b false]) (¬ ((n : Int) ≠ (m : Int))) [(0, sV .i64 a n), (1, sV .i64 b m), (10, bV false)] zo ?_
  refine yC ?_
  refine AW.seq ?_
  refine k8 [.no, .no, .no] True [(0, sV .i64 a n), (1, sV .i64 b m), (12, uV n), (13, iV 0)] trivial ?_
  refine AW.block ?_
  refine kX 0 hcx (fun (x : {x : Nat // match x with | k => (k ≤ n) ∧ (∀ j, j < k → List.getD a j 0 = List.getD b j 0)}) => match x with | ⟨k, _⟩ => (⟨[(0, sV .i64 a n), (1, sV .i64 b m), (12, uV n), (13, uV k)], [], 0⟩ : ES)) (fun x => match x with | ⟨k, _⟩ => n - k) ⟨(0 : Nat), ⟨dO, (fun j hj => absurd hj (Nat.not_lt_zero j))⟩⟩ [] (P := (kZ (dI .i64 a)) ∧ (kP n) ∧ (kZ (dI .i64 b)) ∧ (kP m) ∧ (kN (n : Int)) ∧ (kN 0)) zk ⟨rfl, rfl, rfl, rfl, rfl, rfl⟩ ?_
  rintro ⟨k, hinv0⟩
  obtain ⟨hk, ha⟩ : (k ≤ n) ∧ (∀ j, j < k → List.getD a j 0 = List.getD b j 0) := hinv0
  refine qU (l := [(0, sV .i64 a n), (1, sV .i64 b m), (12, uV n), (13, uV k)]) (g := []) (nx := 0) rfl rfl rfl ?_
  by_cases hx2 : (((k : Nat) : Int) < ((n : Nat) : Int))
  ·refine kI [.b true] (((k : Int) < (n : Int))) [(0, sV .i64 a n), (1, sV .i64 b m), (12, uV n), (13, uV k), (14, bV true)] [] 0 zo ?_
   refine AW.seq ?_
   refine vD ?_
   refine AW.seq ?_
   refine AW.block ?_
   refine k8 [.no, .no] True [(0, sV .i64 a n), (1, sV .i64 b m), (5, uV k), (12, uV n), (13, uV k)] trivial ?_
   by_cases hx3 : ((List.getD a k 0) ≠ (List.getD b k 0))
   ·refine k8 [.no, .no, .n k, .d (D.lit (.int .i64 (List.getD a k 0))), .no, .no, .n k, .d (D.lit (.int .i64 (List.getD b k 0))), .b true] ((kN (k : Int)) ∧ (k < n) ∧ ((List.drop k (dI .i64 a))[0]? = some (D.lit (.int .i64 (List.getD a k 0)))) ∧ (kN (k : Int)) ∧ (k < m) ∧ ((List.drop k (dI .i64 b))[0]? = some (D.lit (.int .i64 (List.getD b k 0)))) ∧ (((List.getD a k 0) ≠ (List.getD b k 0)))) [(0, sV .i64 a n), (1, sV .i64 b m), (12, uV n), (13, uV k), (24, bV true)] ⟨rfl, zo, (qW _ _ _ cJ), rfl, zo, (qW _ _ _ cJ), zo⟩ ?_
    refine zt ?_
    refine k8 [.no] True [(4, bV false)] trivial ?_
    refine AW.ret ?_
    exact kC (.inr rfl) [] (P := ((eE a b) = false)) zk (by first | exact nR zo | exact nQ (k := k) zo | exact nP zo (fun j hj => ha j zo))
   ·refine k8 [.no, .no, .n k, .d (D.lit (.int .i64 (List.getD a k 0))), .no, .no, .n k, .d (D.lit (.int .i64 (List.getD b k 0))), .b false] ((kN (k : Int)) ∧ (k < n) ∧ ((List.drop k (dI .i64 a))[0]? = some (D.lit (.int .i64 (List.getD a k 0)))) ∧ (kN (k : Int)) ∧ (k < m) ∧ ((List.drop k (dI .i64 b))[0]? = some (D.lit (.int .i64 (List.getD b k 0)))) ∧ (¬ ((List.getD a k 0) ≠ (List.getD b k 0)))) [(0, sV .i64 a n), (1, sV .i64 b m), (12, uV n), (13, uV k), (24, bV false)] ⟨rfl, zo, (qW _ _ _ cJ), rfl, zo, (qW _ _ _ cJ), zo⟩ ?_
    refine yC ?_
    refine yD [.w, .no] (qJ ((k : Int) + 1)) [(0, sV .i64 a n), (1, sV .i64 b m), (12, uV n), (13, iV (↑k + 1))] ⟨by omega, by omega⟩ ?_
    exact qE ⟨((k + 1) : Nat), ⟨dO, (fun j hj => (Nat.lt_succ_iff_lt_or_eq.1 hj).elim (ha j) (fun e9 => by subst e9; omega))⟩⟩ [] (P := (kZ (dI .i64 a)) ∧ (kP n) ∧ (kZ (dI .i64 b)) ∧ (kP m) ∧ (kN (n : Int)) ∧ (((((k + 1) : Nat) : Int) : Int) = ((k : Int) + 1))) zk ⟨rfl, rfl, rfl, rfl, rfl, nL⟩ (show n - (k + 1) < n - k from nK)
  ·refine kI [.b false] (¬ ((k : Int) < (n : Int))) [(0, sV .i64 a n), (1, sV .i64 b m), (12, uV n), (13, uV k), (14, bV false)] [] 0 zo ?_
   refine AW.seq ?_
   refine zf ?_
   refine AW.exit ?_
   refine kI [.no] True [(4, bV true)] [] 0 trivial ?_
   refine AW.ret ?_
   exact kC (.inr rfl) [] (P := ((eE a b) = true)) zk (by first | exact nR zo | exact nQ (k := k) zo | exact nP zo (fun j hj => ha j zo))
theorem u35 (a b : List Int) (n m : Nat) (hn : List.length a = n) (hm : List.length b = m) (h2 : n ≤ 1000000) (h3 : m ≤ 1000000) : Fun 91 [.c (.d (D.sl (dI .i64 a) n)), .c (.d (D.sl (dI .i64 b) m))] (kF []) 0 (kS (D.lit (.bool (eE a b)))) (kF []) 0 := by
 refine Fun.mk (n := 8) Try.func91 rfl rfl (Nat.le_of_ble_eq_true rfl) ?_
 intro cx hcx
 refine kI [.no] True [(0, sV .i64 a n), (1, sV .i64 b m)] [] 0 trivial ?_
 rcases Bool.eq_false_or_eq_true (eE a b) with hx1 | hx1
 ·refine k8 [.no, .no, .call [] (bV true) [] 0 [] none, .no] (Fun 95 [.c (.d (dl a n)), .c (.d (dl b m))] (kF []) 0 (bV true) (kF []) 0) [(4, bV true)] (by have h0 := (wL a b n m zo zo zo zo); rw [hx1] at h0; exact h0) ?_
  refine AW.ret ?_
  exact kC (.inr rfl) [] (P := ((eE a b) = true)) zk sY
 ·refine k8 [.no, .no, .call [] (bV false) [] 0 [] none, .no] (Fun 95 [.c (.d (dl a n)), .c (.d (dl b m))] (kF []) 0 (bV false) (kF []) 0) [(4, bV false)] (by have h0 := (wL a b n m zo zo zo zo); rw [hx1] at h0; exact h0) ?_
  refine AW.ret ?_
  exact kC (.inr rfl) [] (P := ((eE a b) = false)) zk sY
end Go.Proofs.Ytdbjebdomdnbkaa
