/- Merged texts. -/
import Derived.Test.YtalbpleglapihaaZW06
namespace Go.Proofs.Ytalbpleglapihaa
open Go.ChangeShapes Go.WideShapes Go.ChangeAt Go.RowKit
set_option linter.unusedVariables false
set_option linter.unusedSimpArgs false
/-! sorted lists -/
def stL (l : List Int) : List Int := l.mergeSort fun x y => decide (x ≤ y)
theorem hU (l : List Int) : (stL l).Perm l := List.mergeSort_perm _ _
theorem wU (l : List Int) : (stL l).length = l.length := (hU l).length_eq
theorem k0y (l : List Int) : (stL l).Pairwise (· ≤ ·) := by
  have h := List.pairwise_mergeSort (le := fun (x y : Int) => decide (x ≤ y)) (fun a b c h1 h2 => decide_eq_true (by have := of_decide_eq_true h1; have := of_decide_eq_true h2; omega)) (fun a b => by
    rw [Bool.or_eq_true]
    rcases Int.le_total a b with h | h
    · exact .inl (decide_eq_true h)
    · exact .inr (decide_eq_true h)) l
  exact h.imp fun h => of_decide_eq_true h
theorem zD {a b : List Int} (h : a.Perm b) (ha : a.Pairwise (· ≤ ·)) (hb : b.Pairwise (· ≤ ·)) : a = b :=
  List.Perm.eq_of_pairwise (le := (· ≤ ·)) (fun x y _ _ h1 h2 => by omega) ha hb h
theorem k5e : stL [] = [] := by unfold stL; exact List.mergeSort_nil
def SO (m : List Int) (i : Nat) (out : List Int) : Prop := out = stL (List.take i m)
theorem SO.zero (m : List Int) : SO m 0 [] := k5e.symm
theorem SO.len {m out : List Int} {i : Nat} (h : SO m i out) (hi : i ≤ m.length) : out.length = i := by
  unfold SO at h; rw [h, wU, List.length_take]; omega
theorem SO.fin {m out : List Int} {i : Nat} (h : SO m i out) (hi : m.length ≤ i) : out = stL m := by
  unfold SO at h; rw [List.take_of_length_le hi] at h; exact h
theorem k6e {l : List Int} (h : l.Pairwise (· ≤ ·)) {i j : Nat} (hij : i ≤ j) (hj : j < l.length) : List.getD l i 0 ≤ List.getD l j 0 := by
  rcases Nat.lt_or_ge i j with h1 | h1
  · rw [List.getD_eq_getElem?_getD, List.getElem?_eq_getElem (by omega), List.getD_eq_getElem?_getD, List.getElem?_eq_getElem hj]
    exact List.pairwise_iff_getElem.1 h i j (by omega) hj h1
  · rw [show i = j by omega]; exact Int.le_refl _
theorem rB {l : List Int} {k : Nat} {x : Int} (h : x ∈ List.take k l) : ∃ j, j < k ∧ j < l.length ∧ List.getD l j 0 = x := by
  obtain ⟨j, hj, e⟩ := nJ.1 h
  rw [List.length_take] at hj
  exact ⟨j, by omega, by omega, by rw [← e, zY (by omega)]⟩
theorem fW {l : List Int} {k : Nat} {x : Int} (h : x ∈ List.drop k l) : ∃ j, k ≤ j ∧ j < l.length ∧ List.getD l j 0 = x := by
  obtain ⟨j, hj, e⟩ := nJ.1 h
  rw [List.length_drop] at hj
  exact ⟨k + j, by omega, by omega, by rw [← e, zZ]⟩
theorem tR {out : List Int} {k : Nat} {p : Int} (h : out.Pairwise (· ≤ ·)) (hk : k ≤ out.length) (h1 : ∀ j, k ≤ j → j < out.length → p < List.getD out j 0) (h2 : k = 0 ∨ List.getD out (k - 1) 0 ≤ p) : (List.take k out ++ [p] ++ List.drop k out).Pairwise (· ≤ ·) := by
  rw [List.append_assoc, List.pairwise_append]
  refine ⟨h.sublist (List.take_sublist _ _), ?_, ?_⟩
  · show (p :: List.drop k out).Pairwise _
    refine List.Pairwise.cons (fun x hx => ?_) (h.sublist (List.drop_sublist _ _))
    obtain ⟨j, j1, j2, rfl⟩ := fW hx
    have := h1 j j1 j2; omega
  · intro x hx y hy
    obtain ⟨j, j1, j2, rfl⟩ := rB hx
    have h3 : List.getD out j 0 ≤ p := by
      rcases h2 with h2 | h2
      · omega
      · have := k6e h (show j ≤ k - 1 by omega) (show k - 1 < out.length by omega); omega
    rcases List.mem_cons.1 (show y ∈ p :: List.drop k out from hy) with rfl | hy
    · exact h3
    · obtain ⟨q, q1, q2, rfl⟩ := fW hy
      have := h1 q q1 q2; omega
theorem k2m (out : List Int) (k : Nat) (p : Int) : (List.take k out ++ [p] ++ List.drop k out).Perm (out ++ [p]) := by
  rw [List.append_assoc]
  refine (List.Perm.append_left _ List.perm_append_comm).trans ?_
  rw [← List.append_assoc, List.take_append_drop]
theorem SO.step {m out q : List Int} {i k : Nat} {p : Int} (h : SO m i out) (hi : i < m.length) (hp : p = List.getD m i 0) (hk : k ≤ out.length) (h1 : ∀ j, k ≤ j → j < out.length → p < List.getD out j 0) (h2 : k = 0 ∨ List.getD out (k - 1) 0 ≤ p) (hq : q = List.take k out ++ [p] ++ List.drop k out) : SO m (i + 1) q := by
  unfold SO at *
  have hs : out.Pairwise (· ≤ ·) := by rw [h]; exact k0y _
  rw [hq]
  refine zD ?_ (tR hs hk h1 h2) (k0y _)
  refine (k2m out k p).trans ?_
  rw [aU hi, ← hp]
  refine List.Perm.trans ?_ (hU _).symm
  rw [h]
  exact (hU _).append_right _
/-! what two lists have in common -/
def coL (a b : List Int) (n : Nat) : List Int := a.filter fun x => decide (0 ≤ uU b x n)
theorem k73 (a b : List Int) (n : Nat) : (coL a b n).length ≤ a.length := List.length_filter_le _ _
def CO (a b : List Int) (n i : Nat) (out : List Int) : Prop := out = coL (List.take i a) b n
theorem CO.zero (a b : List Int) (n : Nat) : CO a b n 0 [] := rfl
theorem CO.y {a b out : List Int} {n i : Nat} {x : Int} (h : CO a b n i out) (hi : i < a.length) (hx : x = List.getD a i 0) (h1 : 0 ≤ uU b (List.getD a i 0) n) : CO a b n (i + 1) (out ++ [x]) := by
  unfold CO coL at *
  rw [aU hi, List.filter_append, ← h, hx]
  congr 1
  rw [List.filter_cons_of_pos (p := fun x => decide (0 ≤ uU b x n)) (a := List.getD a i 0) (decide_eq_true h1)]; rfl
theorem CO.n {a b out : List Int} {n i : Nat} (h : CO a b n i out) (hi : i < a.length) (h1 : ¬ 0 ≤ uU b (List.getD a i 0) n) : CO a b n (i + 1) out := by
  unfold CO coL at *
  rw [aU hi, List.filter_append, ← h]
  have : List.filter (fun x => decide (0 ≤ uU b x n)) [List.getD a i 0] = [] := by
    rw [List.filter_cons_of_neg (by rw [decide_eq_true_iff]; exact h1)]; rfl
  rw [this, List.append_nil]
theorem CO.fin {a b out : List Int} {n i : Nat} (h : CO a b n i out) (hi : a.length ≤ i) : out = coL a b n := by
  unfold CO at h; rw [List.take_of_length_le hi] at h; exact h
theorem CO.len {a b out : List Int} {n i : Nat} (h : CO a b n i out) (hi : i ≤ a.length) : out.length ≤ i := by
  unfold CO at h; rw [h]
  have := k73 (List.take i a) b n
  rw [List.length_take] at this; omega
/-! the same -/
def bX (a b : List Int) : Bool := decide (a = b)
theorem k96 {a b : List Int} (h : a = b) : bX a b = true := decide_eq_true h
theorem k10 {a b : List Int} (h : ¬ a = b) : bX a b = false := decide_eq_false h
theorem k11 {a b : List Int} (h : bX a b = true) : a = b := of_decide_eq_true h
theorem k0z {a b : List Int} (h : bX a b = false) : ¬ a = b := of_decide_eq_false h
theorem lB {a b : List Int} (h : a.length = b.length) (h2 : ∀ j, j < a.length → List.getD a j 0 = List.getD b j 0) : bX a b = true := by
  refine k96 (List.ext_getElem h fun i h1 h3 => ?_)
  have := h2 i h1
  rw [List.getD_eq_getElem?_getD, List.getElem?_eq_getElem h1, List.getD_eq_getElem?_getD, List.getElem?_eq_getElem h3] at this
  exact this
theorem lD {a b : List Int} (h : ¬ a.length = b.length) : bX a b = false := k10 fun e => h (by rw [e])
theorem lC {a b : List Int} {k : Nat} (h : ¬ List.getD a k 0 = List.getD b k 0) : bX a b = false := k10 fun e => h (by rw [e])
end Go.Proofs.Ytalbpleglapihaa
namespace Go.Proofs.Ytalbpleglapihaa
open Go.ChangeShapes Go.WideShapes Go.ChangeAt Go.RowKit
set_option linter.unusedVariables false
set_option linter.unusedSimpArgs false
set_option maxHeartbeats 4000000
set_option maxRecDepth 100000
theorem fS {p : Prop} (h : p := by first | omega | assumption | simp) : p := h
theorem cC {p : Prop} (h : p := by first | omega | (simp only [uR, k5f, wU, qK, List.length_append, List.length_cons, List.length_nil, List.length_take, List.length_drop, List.length_replicate, List.length_set, List.length_map, List.length_reverse, Nat.mul_one] <;> omega) | rfl) : p := h
theorem wG {p : Prop} (h : p := by first | rfl | omega | assumption | (simp; done) | (simp; omega)) : p := h
theorem k4t (l : List Int) (n : Nat) (v : Int) (hn : List.length l = n) (hm : n ≤ 1000000) : Fun 83 [.c (.d (D.sl (dI .i64 l) n)), iE v] (kG []) 0 (iV (uU l v n)) (kG []) 0 := by
 refine Fun.mk (n := 19) Try.func83 rfl rfl (Nat.le_of_ble_eq_true rfl) ?_
 intro cx hcx
 refine kK [.no] True [(0, sV .i64 l n), (1, iV v)] [] 0 trivial ?_
 refine AW.seq ?_
 refine kX [.no, .no, .no] True [(0, sV .i64 l n), (1, iV v), (7, uV n), (8, iV 0)] trivial ?_
 refine AW.block ?_
 refine kW 0 hcx (fun (x : {x : Nat // match x with | k => (k ≤ n) ∧ (uU l v k = -1)}) => match x with | ⟨k, _⟩ => (⟨[(0, sV .i64 l n), (1, iV v), (7, uV n), (8, uV k)], [], 0⟩ : ES)) (fun x => match x with | ⟨k, _⟩ => n - k) ⟨(0 : Nat), ⟨fS, rfl⟩⟩ [] (P := (k8 (dI .i64 l)) ∧ (kN n) ∧ (kM v) ∧ (kM (n : Int)) ∧ (kM 0)) zk ⟨rfl, rfl, rfl, rfl, rfl⟩ ?_
 rintro ⟨k, hinv0⟩
 obtain ⟨hk, hi⟩ : (k ≤ n) ∧ (uU l v k = -1) := hinv0
 refine uH (l := [(0, sV .i64 l n), (1, iV v), (7, uV n), (8, uV k)]) (g := []) (nx := 0) rfl rfl rfl ?_
 by_cases hx1 : (((k : Nat) : Int) < ((n : Nat) : Int))
 ·refine kK [.b true] (((k : Int) < (n : Int))) [(0, sV .i64 l n), (1, iV v), (7, uV n), (8, uV k), (9, bV true)] [] 0 zo ?_
  refine AW.seq ?_
  refine vD ?_
  refine AW.seq ?_
  refine AW.block ?_
  refine kX [.no, .no] True [(0, sV .i64 l n), (1, iV v), (5, uV k), (7, uV n), (8, uV k)] trivial ?_
  by_cases hx2 : (v = (List.getD l k 0))
  ·refine kX [.no, .no, .no, .n k, .d (D.lit (.int .i64 (List.getD l k 0))), .b true] ((kM (k : Int)) ∧ (k < n) ∧ ((List.drop k (dI .i64 l))[0]? = some (D.lit (.int .i64 (List.getD l k 0)))) ∧ ((v = (List.getD l k 0)))) [(0, sV .i64 l n), (1, iV v), (5, uV k), (7, uV n), (8, uV k), (16, bV true)] ⟨rfl, zo, (qQ _ _ _ cC), zo⟩ ?_
   refine zt ?_
   refine kX [.no, .no] True [(4, uV k)] trivial ?_
   refine AW.ret ?_
   exact kC (.inr rfl) [] (P := (((uU l v n) : Int) = (k : Int))) zk (by first | rfl | exact eG hi zo n zo | (rw [show n = k by omega]; exact hi))
  ·refine kX [.no, .no, .no, .n k, .d (D.lit (.int .i64 (List.getD l k 0))), .b false] ((kM (k : Int)) ∧ (k < n) ∧ ((List.drop k (dI .i64 l))[0]? = some (D.lit (.int .i64 (List.getD l k 0)))) ∧ (¬ (v = (List.getD l k 0)))) [(0, sV .i64 l n), (1, iV v), (5, uV k), (7, uV n), (8, uV k), (16, bV false)] ⟨rfl, zo, (qQ _ _ _ cC), zo⟩ ?_
   refine yM ?_
   refine yD [.w, .no] (qL ((k : Int) + 1)) [(0, sV .i64 l n), (1, iV v), (7, uV n), (8, iV (↑k + 1))] ⟨by omega, by omega⟩ ?_
   exact qS ⟨((k + 1) : Nat), ⟨fS, (lS hi zo)⟩⟩ [] (P := (k8 (dI .i64 l)) ∧ (kN n) ∧ (kM v) ∧ (kM (n : Int)) ∧ (((((k + 1) : Nat) : Int) : Int) = ((k : Int) + 1))) zk ⟨rfl, rfl, rfl, rfl, wG⟩ (show n - (k + 1) < n - k from (by first | omega | (show _ < _; simp; omega)))
 ·refine kK [.b false] (¬ ((k : Int) < (n : Int))) [(0, sV .i64 l n), (1, iV v), (7, uV n), (8, uV k), (9, bV false)] [] 0 zo ?_
  refine AW.seq ?_
  refine zf ?_
  refine AW.exit ?_
  refine kK [.no] True [(4, iV (-1))] [] 0 trivial ?_
  refine AW.ret ?_
  exact kC (.inr rfl) [] (P := (((uU l v n) : Int) = (-1))) zk (by first | rfl | exact eG hi zo n zo | (rw [show n = k by omega]; exact hi))
theorem x4 (l : List Int) (n : Nat) (v : Int) (hn : List.length l = n) (hm : n ≤ 1000000) : Fun 79 [.c (.d (D.sl (dI .i64 l) n)), iE v] (kG []) 0 (iV (uU l v n)) (kG []) 0 := by
 refine Fun.mk (n := 8) Try.func79 rfl rfl (Nat.le_of_ble_eq_true rfl) ?_
 intro cx hcx
 refine kK [.no] True [(0, sV .i64 l n), (1, iV v)] [] 0 trivial ?_
 have hx1 : ((((-1) : Int) ≤ (uU l v n)) ∧ ((uU l v n) < ((n : Nat) : Int))) := eF l v n
 refine kX [.no, .no, .call [] (iV (uU l v n)) [] 0 [] none, .no] _ [(4, iV (uU l v n))] (k4t l n v zo zo) ?_
 refine AW.ret ?_
 exact kC (.inr rfl) [] (P := (kM (uU l v n))) zk rfl
theorem pA {p : Prop} (h : p := by first | rfl | assumption | exact decide_eq_true (by omega) | exact decide_eq_false (by omega) | (simp; omega)) : p := h
theorem k4u (p : Int)  : Fun 78 [iE p] (kG []) 0 (kT (D.lit (.bool (decide (1 ≤ p ∧ p ≤ 8))))) (kG []) 0 := by
 refine Fun.mk (n := 9) Try.func78 rfl rfl (Nat.le_of_ble_eq_true rfl) ?_
 intro cx hcx
 refine kK [.no] True [(0, iV p)] [] 0 trivial ?_
 by_cases hx1 : ((1 : Int) ≤ p)
 ·by_cases hx2 : (p ≤ 8)
  ·refine kX [.no, .b true, .no, .no, .b true, .no, .no] ((((1 : Int) ≤ p)) ∧ ((p ≤ 8))) [(2, bV true)] ⟨zo, zo⟩ ?_
   refine AW.ret ?_
   exact kC (.inr rfl) [] (P := ((decide (1 ≤ p ∧ p ≤ 8)) = true)) zk pA
  ·refine kX [.no, .b true, .no, .no, .b false, .no, .no] ((((1 : Int) ≤ p)) ∧ (¬ (p ≤ 8))) [(2, bV false)] ⟨zo, zo⟩ ?_
   refine AW.ret ?_
   exact kC (.inr rfl) [] (P := ((decide (1 ≤ p ∧ p ≤ 8)) = false)) zk pA
 ·refine kX [.no, .b false, .no, .no, .no] (¬ ((1 : Int) ≤ p)) [(2, bV false)] zo ?_
  refine AW.ret ?_
  exact kC (.inr rfl) [] (P := ((decide (1 ≤ p ∧ p ≤ 8)) = false)) zk pA
theorem oN (l : List Int) (n : Nat) (hn : List.length l = n) (hm : n ≤ 1000000) : Fun 74 [.c (.d (D.sl (dI .i64 l) n))] (kG []) 0 (kT (D.lit (.bool (jT l n)))) (kG []) 0 := by
 refine Fun.mk (n := 31) Try.func74 rfl rfl (Nat.le_of_ble_eq_true rfl) ?_
 intro cx hcx
 refine kK [.no] True [(0, sV .i64 l n)] [] 0 trivial ?_
 refine AW.seq ?_
 by_cases hx1 : (((n : Nat) : Int) < 1)
 ·refine kX [.no, .no, .b true, .no, .no] (((n : Int) < 1)) [(0, sV .i64 l n), (12, bV true)] zo ?_
  refine zt ?_
  refine kX [.no] True [(2, bV false)] trivial ?_
  refine AW.ret ?_
  exact kC (.inr rfl) [] (P := ((jT l n) = false)) zk (by first | exact lY zo (fun j hj => ha j zo) | exact sA zo | exact r9 (k := k) zo (decide_eq_false zo))
 ·by_cases hx2 : ((8 : Int) < ((n : Nat) : Int))
  ·refine kX [.no, .no, .b false, .no, .no, .no, .b true, .no] ((¬ ((n : Int) < 1)) ∧ (((8 : Int) < (n : Int)))) [(0, sV .i64 l n), (12, bV true)] ⟨zo, zo⟩ ?_
   refine zt ?_
   refine kX [.no] True [(2, bV false)] trivial ?_
   refine AW.ret ?_
   exact kC (.inr rfl) [] (P := ((jT l n) = false)) zk (by first | exact lY zo (fun j hj => ha j zo) | exact sA zo | exact r9 (k := k) zo (decide_eq_false zo))
  ·refine kX [.no, .no, .b false, .no, .no, .no, .b false, .no] ((¬ ((n : Int) < 1)) ∧ (¬ ((8 : Int) < (n : Int)))) [(0, sV .i64 l n), (12, bV false)] ⟨zo, zo⟩ ?_
   refine yM ?_
   refine AW.seq ?_
   refine kX [.no, .no, .no] True [(0, sV .i64 l n), (13, sV .i64 l n), (14, uV n), (15, iV 0)] trivial ?_
   refine AW.block ?_
   refine kW 0 hcx (fun (x : {x : Nat // match x with | k => (k ≤ n) ∧ (∀ j, j < k → chE l n j = true)}) => match x with | ⟨k, _⟩ => (⟨[(0, sV .i64 l n), (13, sV .i64 l n), (14, uV n), (15, uV k)], [], 0⟩ : ES)) (fun x => match x with | ⟨k, _⟩ => n - k) ⟨(0 : Nat), ⟨fS, (fun j hj => absurd hj (Nat.not_lt_zero j))⟩⟩ [] (P := (k8 (dI .i64 l)) ∧ (kN n) ∧ (k8 (dI .i64 l)) ∧ (kN n) ∧ (kM (n : Int)) ∧ (kM 0)) zk ⟨rfl, rfl, rfl, rfl, rfl, rfl⟩ ?_
   rintro ⟨k, hinv0⟩
   obtain ⟨hk, ha⟩ : (k ≤ n) ∧ (∀ j, j < k → chE l n j = true) := hinv0
   refine uH (l := [(0, sV .i64 l n), (13, sV .i64 l n), (14, uV n), (15, uV k)]) (g := []) (nx := 0) rfl rfl rfl ?_
   by_cases hx3 : (((k : Nat) : Int) < ((n : Nat) : Int))
   ·refine kK [.b true] (((k : Int) < (n : Int))) [(0, sV .i64 l n), (13, sV .i64 l n), (14, uV n), (15, uV k), (16, bV true)] [] 0 zo ?_
    refine AW.seq ?_
    refine vD ?_
    refine AW.seq ?_
    refine AW.block ?_
    refine kX [.no, .n k, .d (D.lit (.int .i64 (List.getD l k 0))), .no, .no] ((kM (k : Int)) ∧ (k < n) ∧ ((List.drop k (dI .i64 l))[0]? = some (D.lit (.int .i64 (List.getD l k 0))))) [(0, sV .i64 l n), (3, uV k), (4, iV (List.getD l k 0)), (13, sV .i64 l n), (14, uV n), (15, uV k)] ⟨rfl, zo, (qQ _ _ _ cC)⟩ ?_
    rcases Bool.eq_false_or_eq_true (decide (1 ≤ (List.getD l k 0) ∧ (List.getD l k 0) ≤ 8)) with hx4 | hx4
    ·have hx5 : (((1 : Int) ≤ (List.getD l k 0)) ∧ ((List.getD l k 0) ≤ 8)) := of_decide_eq_true hx4
     by_cases hx7 : ((uU l (List.getD l k 0) n) ≠ ((k : Nat) : Int))
     ·have hx8 : ((((-1) : Int) ≤ (uU l (List.getD l k 0) n)) ∧ ((uU l (List.getD l k 0) n) < ((n : Nat) : Int))) := eF l (List.getD l k 0) n
      refine kX (.no :: .call [] (bV true) [] 0 [] none :: kS 4 [.call [] (iV (uU l (List.getD l k 0) n)) [] 0 [] none, .no, .b true, .no]) ((Fun 78 [iE (List.getD l k 0)] (kG []) 0 (bV true) (kG []) 0) ∧ (_) ∧ (((uU l (List.getD l k 0) n) ≠ (k : Int)))) [(0, sV .i64 l n), (13, sV .i64 l n), (14, uV n), (15, uV k), (29, bV true)] ⟨(by have h0 := (k4u (List.getD l k 0)); rw [hx4] at h0; exact h0), (x4 l n (List.getD l k 0) zo zo), zo⟩ ?_
      refine zt ?_
      refine kX [.no] True [(2, bV false)] trivial ?_
      refine AW.ret ?_
      exact kC (.inr rfl) [] (P := ((jT l n) = false)) zk (by first | exact lY zo (fun j hj => ha j zo) | exact sA zo | exact r9 (k := k) zo (decide_eq_false zo))
     ·have hx9 : ((((-1) : Int) ≤ (uU l (List.getD l k 0) n)) ∧ ((uU l (List.getD l k 0) n) < ((n : Nat) : Int))) := eF l (List.getD l k 0) n
      refine kX (.no :: .call [] (bV true) [] 0 [] none :: kS 4 [.call [] (iV (uU l (List.getD l k 0) n)) [] 0 [] none, .no, .b false, .no]) ((Fun 78 [iE (List.getD l k 0)] (kG []) 0 (bV true) (kG []) 0) ∧ (_) ∧ (¬ ((uU l (List.getD l k 0) n) ≠ (k : Int)))) [(0, sV .i64 l n), (13, sV .i64 l n), (14, uV n), (15, uV k), (29, bV false)] ⟨(by have h0 := (k4u (List.getD l k 0)); rw [hx4] at h0; exact h0), (x4 l n (List.getD l k 0) zo zo), zo⟩ ?_
      refine yM ?_
      refine yD [.w, .no] (qL ((k : Int) + 1)) [(0, sV .i64 l n), (13, sV .i64 l n), (14, uV n), (15, iV (↑k + 1))] ⟨by omega, by omega⟩ ?_
      exact qS ⟨((k + 1) : Nat), ⟨fS, (fun j hj => (Nat.lt_succ_iff_lt_or_eq.1 hj).elim (ha j) (fun e9 => by subst e9; exact decide_eq_true zo))⟩⟩ [] (P := (k8 (dI .i64 l)) ∧ (kN n) ∧ (k8 (dI .i64 l)) ∧ (kN n) ∧ (kM (n : Int)) ∧ (((((k + 1) : Nat) : Int) : Int) = ((k : Int) + 1))) zk ⟨rfl, rfl, rfl, rfl, rfl, wG⟩ (show n - (k + 1) < n - k from (by first | omega | (show _ < _; simp; omega)))
    ·have hx10 : ¬ (((1 : Int) ≤ (List.getD l k 0)) ∧ ((List.getD l k 0) ≤ 8)) := of_decide_eq_false hx4
     refine kX [.no, .call [] (bV false) [] 0 [] none, .no, .no, .no] (Fun 78 [iE (List.getD l k 0)] (kG []) 0 (bV false) (kG []) 0) [(0, sV .i64 l n), (13, sV .i64 l n), (14, uV n), (15, uV k), (29, bV true)] (by have h0 := (k4u (List.getD l k 0)); rw [hx4] at h0; exact h0) ?_
     refine zt ?_
     refine kX [.no] True [(2, bV false)] trivial ?_
     refine AW.ret ?_
     exact kC (.inr rfl) [] (P := ((jT l n) = false)) zk (by first | exact lY zo (fun j hj => ha j zo) | exact sA zo | exact r9 (k := k) zo (decide_eq_false zo))
   ·refine kK [.b false] (¬ ((k : Int) < (n : Int))) [(0, sV .i64 l n), (13, sV .i64 l n), (14, uV n), (15, uV k), (16, bV false)] [] 0 zo ?_
    refine AW.seq ?_
    refine zf ?_
    refine AW.exit ?_
    refine kK [.no] True [(2, bV true)] [] 0 trivial ?_
    refine AW.ret ?_
    exact kC (.inr rfl) [] (P := ((jT l n) = true)) zk (by first | exact lY zo (fun j hj => ha j zo) | exact sA zo | exact r9 (k := k) zo (decide_eq_false zo))
theorem sO (a b : List Int) (n m : Nat) (hn : List.length a = n) (hm : List.length b = m) (h2 : n ≤ 1000000) (h3 : m ≤ 1000000) : Fun 85 [.c (.d (D.sl (dI .i64 a) n)), .c (.d (D.sl (dI .i64 b) m))] (kG []) 0 (kT (D.lit (.bool (bX a b)))) (kG []) 0 := by
 refine Fun.mk (n := 26) Try.func85 rfl rfl (Nat.le_of_ble_eq_true rfl) ?_
 intro cx hcx
 refine kK [.no] True [(0, sV .i64 a n), (1, sV .i64 b m)] [] 0 trivial ?_
 refine AW.seq ?_
 by_cases hx1 : (((n : Nat) : Int) ≠ ((m : Nat) : Int))
 ·refine kX (kS 4 [.b true]) (((n : Int) ≠ (m : Int))) [(0, sV .i64 a n), (1, sV .i64 b m), (10, bV true)] zo ?_
  refine zt ?_
  refine kX [.no] True [(4, bV false)] trivial ?_
  refine AW.ret ?_
  exact kC (.inr rfl) [] (P := ((bX a b) = false)) zk (by first | exact lD zo | exact lC (k := k) zo | exact lB zo (fun j hj => ha j zo))
 ·refine kX (kS 4 [.b false]) (¬ ((n : Int) ≠ (m : Int))) [(0, sV .i64 a n), (1, sV .i64 b m), (10, bV false)] zo ?_
  refine yM ?_
  refine AW.seq ?_
  refine kX [.no, .no, .no] True [(0, sV .i64 a n), (1, sV .i64 b m), (12, uV n), (13, iV 0)] trivial ?_
  refine AW.block ?_
  refine kW 0 hcx (fun (x : {x : Nat // match x with | k => (k ≤ n) ∧ (∀ j, j < k → List.getD a j 0 = List.getD b j 0)}) => match x with | ⟨k, _⟩ => (⟨[(0, sV .i64 a n), (1, sV .i64 b m), (12, uV n), (13, uV k)], [], 0⟩ : ES)) (fun x => match x with | ⟨k, _⟩ => n - k) ⟨(0 : Nat), ⟨fS, (fun j hj => absurd hj (Nat.not_lt_zero j))⟩⟩ [] (P := (k8 (dI .i64 a)) ∧ (kN n) ∧ (k8 (dI .i64 b)) ∧ (kN m) ∧ (kM (n : Int)) ∧ (kM 0)) zk ⟨rfl, rfl, rfl, rfl, rfl, rfl⟩ ?_
  rintro ⟨k, hinv0⟩
  obtain ⟨hk, ha⟩ : (k ≤ n) ∧ (∀ j, j < k → List.getD a j 0 = List.getD b j 0) := hinv0
  refine uH (l := [(0, sV .i64 a n), (1, sV .i64 b m), (12, uV n), (13, uV k)]) (g := []) (nx := 0) rfl rfl rfl ?_
  by_cases hx2 : (((k : Nat) : Int) < ((n : Nat) : Int))
  ·refine kK [.b true] (((k : Int) < (n : Int))) [(0, sV .i64 a n), (1, sV .i64 b m), (12, uV n), (13, uV k), (14, bV true)] [] 0 zo ?_
   refine AW.seq ?_
   refine vD ?_
   refine AW.seq ?_
   refine AW.block ?_
   refine kX [.no, .no] True [(0, sV .i64 a n), (1, sV .i64 b m), (5, uV k), (12, uV n), (13, uV k)] trivial ?_
   by_cases hx3 : ((List.getD a k 0) ≠ (List.getD b k 0))
   ·refine kX [.no, .no, .n k, .d (D.lit (.int .i64 (List.getD a k 0))), .no, .no, .n k, .d (D.lit (.int .i64 (List.getD b k 0))), .b true] ((kM (k : Int)) ∧ (k < n) ∧ ((List.drop k (dI .i64 a))[0]? = some (D.lit (.int .i64 (List.getD a k 0)))) ∧ (kM (k : Int)) ∧ (k < m) ∧ ((List.drop k (dI .i64 b))[0]? = some (D.lit (.int .i64 (List.getD b k 0)))) ∧ (((List.getD a k 0) ≠ (List.getD b k 0)))) [(0, sV .i64 a n), (1, sV .i64 b m), (12, uV n), (13, uV k), (24, bV true)] ⟨rfl, zo, (qQ _ _ _ cC), rfl, zo, (qQ _ _ _ cC), zo⟩ ?_
    refine zt ?_
    refine kX [.no] True [(4, bV false)] trivial ?_
    refine AW.ret ?_
    exact kC (.inr rfl) [] (P := ((bX a b) = false)) zk (by first | exact lD zo | exact lC (k := k) zo | exact lB zo (fun j hj => ha j zo))
   ·refine kX [.no, .no, .n k, .d (D.lit (.int .i64 (List.getD a k 0))), .no, .no, .n k, .d (D.lit (.int .i64 (List.getD b k 0))), .b false] ((kM (k : Int)) ∧ (k < n) ∧ ((List.drop k (dI .i64 a))[0]? = some (D.lit (.int .i64 (List.getD a k 0)))) ∧ (kM (k : Int)) ∧ (k < m) ∧ ((List.drop k (dI .i64 b))[0]? = some (D.lit (.int .i64 (List.getD b k 0)))) ∧ (¬ ((List.getD a k 0) ≠ (List.getD b k 0)))) [(0, sV .i64 a n), (1, sV .i64 b m), (12, uV n), (13, uV k), (24, bV false)] ⟨rfl, zo, (qQ _ _ _ cC), rfl, zo, (qQ _ _ _ cC), zo⟩ ?_
    refine yM ?_
    refine yD [.w, .no] (qL ((k : Int) + 1)) [(0, sV .i64 a n), (1, sV .i64 b m), (12, uV n), (13, iV (↑k + 1))] ⟨by omega, by omega⟩ ?_
    exact qS ⟨((k + 1) : Nat), ⟨fS, (fun j hj => (Nat.lt_succ_iff_lt_or_eq.1 hj).elim (ha j) (fun e9 => by subst e9; omega))⟩⟩ [] (P := (k8 (dI .i64 a)) ∧ (kN n) ∧ (k8 (dI .i64 b)) ∧ (kN m) ∧ (kM (n : Int)) ∧ (((((k + 1) : Nat) : Int) : Int) = ((k : Int) + 1))) zk ⟨rfl, rfl, rfl, rfl, rfl, wG⟩ (show n - (k + 1) < n - k from (by first | omega | (show _ < _; simp; omega)))
  ·refine kK [.b false] (¬ ((k : Int) < (n : Int))) [(0, sV .i64 a n), (1, sV .i64 b m), (12, uV n), (13, uV k), (14, bV false)] [] 0 zo ?_
   refine AW.seq ?_
   refine zf ?_
   refine AW.exit ?_
   refine kK [.no] True [(4, bV true)] [] 0 trivial ?_
   refine AW.ret ?_
   exact kC (.inr rfl) [] (P := ((bX a b) = true)) zk (by first | exact lD zo | exact lC (k := k) zo | exact lB zo (fun j hj => ha j zo))
theorem x3 (a b : List Int) (n m : Nat) (hn : List.length a = n) (hm : List.length b = m) (h2 : n ≤ 1000000) (h3 : m ≤ 1000000) : Fun 61 [.c (.d (D.sl (dI .i64 a) n)), .c (.d (D.sl (dI .i64 b) m))] (kG []) 0 (kT (D.lit (.bool (bX a b)))) (kG []) 0 := by
 refine Fun.mk (n := 26) Try.func61 rfl rfl (Nat.le_of_ble_eq_true rfl) ?_
 intro cx hcx
 refine kK [.no] True [(0, sV .i64 a n), (1, sV .i64 b m)] [] 0 trivial ?_
 refine AW.seq ?_
 by_cases hx1 : (((n : Nat) : Int) ≠ ((m : Nat) : Int))
 ·refine kX (kS 4 [.b true]) (((n : Int) ≠ (m : Int))) [(0, sV .i64 a n), (1, sV .i64 b m), (10, bV true)] zo ?_
  refine zt ?_
  refine kX [.no] True [(4, bV false)] trivial ?_
  refine AW.ret ?_
  exact kC (.inr rfl) [] (P := ((bX a b) = false)) zk (by first | exact lD zo | exact lC (k := k) zo | exact lB zo (fun j hj => ha j zo))
 ·refine kX (kS 4 [.b false]) (¬ ((n : Int) ≠ (m : Int))) [(0, sV .i64 a n), (1, sV .i64 b m), (10, bV false)] zo ?_
  refine yM ?_
  refine AW.seq ?_
  refine kX [.no, .no, .no] True [(0, sV .i64 a n), (1, sV .i64 b m), (12, uV n), (13, iV 0)] trivial ?_
  refine AW.block ?_
  refine kW 0 hcx (fun (x : {x : Nat // match x with | k => (k ≤ n) ∧ (∀ j, j < k → List.getD a j 0 = List.getD b j 0)}) => match x with | ⟨k, _⟩ => (⟨[(0, sV .i64 a n), (1, sV .i64 b m), (12, uV n), (13, uV k)], [], 0⟩ : ES)) (fun x => match x with | ⟨k, _⟩ => n - k) ⟨(0 : Nat), ⟨fS, (fun j hj => absurd hj (Nat.not_lt_zero j))⟩⟩ [] (P := (k8 (dI .i64 a)) ∧ (kN n) ∧ (k8 (dI .i64 b)) ∧ (kN m) ∧ (kM (n : Int)) ∧ (kM 0)) zk ⟨rfl, rfl, rfl, rfl, rfl, rfl⟩ ?_
  rintro ⟨k, hinv0⟩
  obtain ⟨hk, ha⟩ : (k ≤ n) ∧ (∀ j, j < k → List.getD a j 0 = List.getD b j 0) := hinv0
  refine uH (l := [(0, sV .i64 a n), (1, sV .i64 b m), (12, uV n), (13, uV k)]) (g := []) (nx := 0) rfl rfl rfl ?_
  by_cases hx2 : (((k : Nat) : Int) < ((n : Nat) : Int))
  ·refine kK [.b true] (((k : Int) < (n : Int))) [(0, sV .i64 a n), (1, sV .i64 b m), (12, uV n), (13, uV k), (14, bV true)] [] 0 zo ?_
   refine AW.seq ?_
   refine vD ?_
   refine AW.seq ?_
   refine AW.block ?_
   refine kX [.no, .no] True [(0, sV .i64 a n), (1, sV .i64 b m), (5, uV k), (12, uV n), (13, uV k)] trivial ?_
   by_cases hx3 : ((List.getD a k 0) ≠ (List.getD b k 0))
   ·refine kX [.no, .no, .n k, .d (D.lit (.int .i64 (List.getD a k 0))), .no, .no, .n k, .d (D.lit (.int .i64 (List.getD b k 0))), .b true] ((kM (k : Int)) ∧ (k < n) ∧ ((List.drop k (dI .i64 a))[0]? = some (D.lit (.int .i64 (List.getD a k 0)))) ∧ (kM (k : Int)) ∧ (k < m) ∧ ((List.drop k (dI .i64 b))[0]? = some (D.lit (.int .i64 (List.getD b k 0)))) ∧ (((List.getD a k 0) ≠ (List.getD b k 0)))) [(0, sV .i64 a n), (1, sV .i64 b m), (12, uV n), (13, uV k), (24, bV true)] ⟨rfl, zo, (qQ _ _ _ cC), rfl, zo, (qQ _ _ _ cC), zo⟩ ?_
    refine zt ?_
    refine kX [.no] True [(4, bV false)] trivial ?_
    refine AW.ret ?_
    exact kC (.inr rfl) [] (P := ((bX a b) = false)) zk (by first | exact lD zo | exact lC (k := k) zo | exact lB zo (fun j hj => ha j zo))
   ·refine kX [.no, .no, .n k, .d (D.lit (.int .i64 (List.getD a k 0))), .no, .no, .n k, .d (D.lit (.int .i64 (List.getD b k 0))), .b false] ((kM (k : Int)) ∧ (k < n) ∧ ((List.drop k (dI .i64 a))[0]? = some (D.lit (.int .i64 (List.getD a k 0)))) ∧ (kM (k : Int)) ∧ (k < m) ∧ ((List.drop k (dI .i64 b))[0]? = some (D.lit (.int .i64 (List.getD b k 0)))) ∧ (¬ ((List.getD a k 0) ≠ (List.getD b k 0)))) [(0, sV .i64 a n), (1, sV .i64 b m), (12, uV n), (13, uV k), (24, bV false)] ⟨rfl, zo, (qQ _ _ _ cC), rfl, zo, (qQ _ _ _ cC), zo⟩ ?_
    refine yM ?_
    refine yD [.w, .no] (qL ((k : Int) + 1)) [(0, sV .i64 a n), (1, sV .i64 b m), (12, uV n), (13, iV (↑k + 1))] ⟨by omega, by omega⟩ ?_
    exact qS ⟨((k + 1) : Nat), ⟨fS, (fun j hj => (Nat.lt_succ_iff_lt_or_eq.1 hj).elim (ha j) (fun e9 => by subst e9; omega))⟩⟩ [] (P := (k8 (dI .i64 a)) ∧ (kN n) ∧ (k8 (dI .i64 b)) ∧ (kN m) ∧ (kM (n : Int)) ∧ (((((k + 1) : Nat) : Int) : Int) = ((k : Int) + 1))) zk ⟨rfl, rfl, rfl, rfl, rfl, wG⟩ (show n - (k + 1) < n - k from (by first | omega | (show _ < _; simp; omega)))
  ·refine kK [.b false] (¬ ((k : Int) < (n : Int))) [(0, sV .i64 a n), (1, sV .i64 b m), (12, uV n), (13, uV k), (14, bV false)] [] 0 zo ?_
   refine AW.seq ?_
   refine zf ?_
   refine AW.exit ?_
   refine kK [.no] True [(4, bV true)] [] 0 trivial ?_
   refine AW.ret ?_
   exact kC (.inr rfl) [] (P := ((bX a b) = true)) zk (by first | exact lD zo | exact lC (k := k) zo | exact lB zo (fun j hj => ha j zo))
theorem u10 (a b : List Int) (n m : Nat) (hn : List.length a = n) (hm : List.length b = m) (h2 : n ≤ 1000000) (h3 : m ≤ 1000000) : Fun 82 [.c (.d (D.sl (dI .i64 a) n)), .c (.d (D.sl (dI .i64 b) m))] (kG []) 0 (kT (D.lit (.bool (bX a b)))) (kG []) 0 := by
 refine Fun.mk (n := 8) Try.func82 rfl rfl (Nat.le_of_ble_eq_true rfl) ?_
 intro cx hcx
 refine kK [.no] True [(0, sV .i64 a n), (1, sV .i64 b m)] [] 0 trivial ?_
 rcases Bool.eq_false_or_eq_true (bX a b) with hx1 | hx1
 ·refine kX [.no, .no, .call [] (bV true) [] 0 [] none, .no] (Fun 85 [.c (.d (dl a n)), .c (.d (dl b m))] (kG []) 0 (bV true) (kG []) 0) [(4, bV true)] (by have h0 := (sO a b n m zo zo zo zo); rw [hx1] at h0; exact h0) ?_
  refine AW.ret ?_
  exact kC (.inr rfl) [] (P := ((bX a b) = true)) zk pA
 ·refine kX [.no, .no, .call [] (bV false) [] 0 [] none, .no] (Fun 85 [.c (.d (dl a n)), .c (.d (dl b m))] (kG []) 0 (bV false) (kG []) 0) [(4, bV false)] (by have h0 := (sO a b n m zo zo zo zo); rw [hx1] at h0; exact h0) ?_
  refine AW.ret ?_
  exact kC (.inr rfl) [] (P := ((bX a b) = false)) zk pA
end Go.Proofs.Ytalbpleglapihaa
