/- Merged texts. -/
import Derived.Test.YtcfmjpnffembpaaGreatZW06
namespace Go.Proofs.YtcfmjpnffembpaaGreat
open Go.ChangeShapes Go.WideShapes Go.ChangeAt Go.RowKit
set_option linter.unusedVariables false
set_option linter.unusedSimpArgs false
/-! sorted lists -/
def stL (l : List Int) : List Int := l.mergeSort fun x y => decide (x ≤ y)
theorem nG (l : List Int) : (stL l).Perm l := List.mergeSort_perm _ _
theorem fS (l : List Int) : (stL l).length = l.length := (nG l).length_eq
theorem k40 (l : List Int) : (stL l).Pairwise (· ≤ ·) := by
  have h := List.pairwise_mergeSort (le := fun (x y : Int) => decide (x ≤ y)) (fun a b c h1 h2 => decide_eq_true (by have := of_decide_eq_true h1; have := of_decide_eq_true h2; omega)) (fun a b => by
    rw [Bool.or_eq_true]
    rcases Int.le_total a b with h | h
    · exact .inl (decide_eq_true h)
    · exact .inr (decide_eq_true h)) l
  exact h.imp fun h => of_decide_eq_true h
theorem k2o {a b : List Int} (h : a.Perm b) (ha : a.Pairwise (· ≤ ·)) (hb : b.Pairwise (· ≤ ·)) : a = b :=
  List.Perm.eq_of_pairwise (le := (· ≤ ·)) (fun x y _ _ h1 h2 => by omega) ha hb h
theorem k84 : stL [] = [] := by unfold stL; exact List.mergeSort_nil
def SO (m : List Int) (i : Nat) (out : List Int) : Prop := out = stL (List.take i m)
theorem SO.zero (m : List Int) : SO m 0 [] := k84.symm
theorem SO.len {m out : List Int} {i : Nat} (h : SO m i out) (hi : i ≤ m.length) : out.length = i := by
  unfold SO at h; rw [h, fS, List.length_take]; omega
theorem SO.fin {m out : List Int} {i : Nat} (h : SO m i out) (hi : m.length ≤ i) : out = stL m := by
  unfold SO at h; rw [List.take_of_length_le hi] at h; exact h
theorem k93 {l : List Int} (h : l.Pairwise (· ≤ ·)) {i j : Nat} (hij : i ≤ j) (hj : j < l.length) : List.getD l i 0 ≤ List.getD l j 0 := by
  rcases Nat.lt_or_ge i j with h1 | h1
  · rw [List.getD_eq_getElem?_getD, List.getElem?_eq_getElem (by omega), List.getD_eq_getElem?_getD, List.getElem?_eq_getElem hj]
    exact List.pairwise_iff_getElem.1 h i j (by omega) hj h1
  · rw [show i = j by omega]; exact Int.le_refl _
theorem t8 {l : List Int} {k : Nat} {x : Int} (h : x ∈ List.take k l) : ∃ j, j < k ∧ j < l.length ∧ List.getD l j 0 = x := by
  obtain ⟨j, hj, e⟩ := k57.1 h
  rw [List.length_take] at hj
  exact ⟨j, by omega, by omega, by rw [← e, k33 (by omega)]⟩
theorem lX {l : List Int} {k : Nat} {x : Int} (h : x ∈ List.drop k l) : ∃ j, k ≤ j ∧ j < l.length ∧ List.getD l j 0 = x := by
  obtain ⟨j, hj, e⟩ := k57.1 h
  rw [List.length_drop] at hj
  exact ⟨k + j, by omega, by omega, by rw [← e, dN]⟩
theorem z9 {out : List Int} {k : Nat} {p : Int} (h : out.Pairwise (· ≤ ·)) (hk : k ≤ out.length) (h1 : ∀ j, k ≤ j → j < out.length → p < List.getD out j 0) (h2 : k = 0 ∨ List.getD out (k - 1) 0 ≤ p) : (List.take k out ++ [p] ++ List.drop k out).Pairwise (· ≤ ·) := by
  rw [List.append_assoc, List.pairwise_append]
  refine ⟨h.sublist (List.take_sublist _ _), ?_, ?_⟩
  · show (p :: List.drop k out).Pairwise _
    refine List.Pairwise.cons (fun x hx => ?_) (h.sublist (List.drop_sublist _ _))
    obtain ⟨j, j1, j2, rfl⟩ := lX hx
    have := h1 j j1 j2; omega
  · intro x hx y hy
    obtain ⟨j, j1, j2, rfl⟩ := t8 hx
    have h3 : List.getD out j 0 ≤ p := by
      rcases h2 with h2 | h2
      · omega
      · have := k93 h (show j ≤ k - 1 by omega) (show k - 1 < out.length by omega); omega
    rcases List.mem_cons.1 (show y ∈ p :: List.drop k out from hy) with rfl | hy
    · exact h3
    · obtain ⟨q, q1, q2, rfl⟩ := lX hy
      have := h1 q q1 q2; omega
theorem k5k (out : List Int) (k : Nat) (p : Int) : (List.take k out ++ [p] ++ List.drop k out).Perm (out ++ [p]) := by
  rw [List.append_assoc]
  refine (List.Perm.append_left _ List.perm_append_comm).trans ?_
  rw [← List.append_assoc, List.take_append_drop]
theorem SO.step {m out q : List Int} {i k : Nat} {p : Int} (h : SO m i out) (hi : i < m.length) (hp : p = List.getD m i 0) (hk : k ≤ out.length) (h1 : ∀ j, k ≤ j → j < out.length → p < List.getD out j 0) (h2 : k = 0 ∨ List.getD out (k - 1) 0 ≤ p) (hq : q = List.take k out ++ [p] ++ List.drop k out) : SO m (i + 1) q := by
  unfold SO at *
  have hs : out.Pairwise (· ≤ ·) := by rw [h]; exact k40 _
  rw [hq]
  refine k2o ?_ (z9 hs hk h1 h2) (k40 _)
  refine (k5k out k p).trans ?_
  rw [dH hi, ← hp]
  refine List.Perm.trans ?_ (nG _).symm
  rw [h]
  exact (nG _).append_right _
/-! what two lists have in common -/
def yS (a b : List Int) (n : Nat) : List Int := a.filter fun x => decide (0 ≤ qQ b x n)
theorem fZ (a b : List Int) (n : Nat) : (yS a b n).length ≤ a.length := List.length_filter_le _ _
def CO (a b : List Int) (n i : Nat) (out : List Int) : Prop := out = yS (List.take i a) b n
theorem CO.zero (a b : List Int) (n : Nat) : CO a b n 0 [] := rfl
theorem CO.y {a b out : List Int} {n i : Nat} {x : Int} (h : CO a b n i out) (hi : i < a.length) (hx : x = List.getD a i 0) (h1 : 0 ≤ qQ b (List.getD a i 0) n) : CO a b n (i + 1) (out ++ [x]) := by
  unfold CO yS at *
  rw [dH hi, List.filter_append, ← h, hx]
  congr 1
  rw [List.filter_cons_of_pos (p := fun x => decide (0 ≤ qQ b x n)) (a := List.getD a i 0) (decide_eq_true h1)]; rfl
theorem CO.n {a b out : List Int} {n i : Nat} (h : CO a b n i out) (hi : i < a.length) (h1 : ¬ 0 ≤ qQ b (List.getD a i 0) n) : CO a b n (i + 1) out := by
  unfold CO yS at *
  rw [dH hi, List.filter_append, ← h]
  have : List.filter (fun x => decide (0 ≤ qQ b x n)) [List.getD a i 0] = [] := by
    rw [List.filter_cons_of_neg (by rw [decide_eq_true_iff]; exact h1)]; rfl
  rw [this, List.append_nil]
theorem CO.fin {a b out : List Int} {n i : Nat} (h : CO a b n i out) (hi : a.length ≤ i) : out = yS a b n := by
  unfold CO at h; rw [List.take_of_length_le hi] at h; exact h
theorem CO.len {a b out : List Int} {n i : Nat} (h : CO a b n i out) (hi : i ≤ a.length) : out.length ≤ i := by
  unfold CO at h; rw [h]
  have := fZ (List.take i a) b n
  rw [List.length_take] at this; omega
/-! the same -/
def vQ (a b : List Int) : Bool := decide (a = b)
theorem u1o {a b : List Int} (h : a = b) : vQ a b = true := decide_eq_true h
theorem k42 {a b : List Int} (h : ¬ a = b) : vQ a b = false := decide_eq_false h
theorem k43 {a b : List Int} (h : vQ a b = true) : a = b := of_decide_eq_true h
theorem k41 {a b : List Int} (h : vQ a b = false) : ¬ a = b := of_decide_eq_false h
theorem o2 {a b : List Int} (h : a.length = b.length) (h2 : ∀ j, j < a.length → List.getD a j 0 = List.getD b j 0) : vQ a b = true := by
  refine u1o (List.ext_getElem h fun i h1 h3 => ?_)
  have := h2 i h1
  rw [List.getD_eq_getElem?_getD, List.getElem?_eq_getElem h1, List.getD_eq_getElem?_getD, List.getElem?_eq_getElem h3] at this
  exact this
theorem o4 {a b : List Int} (h : ¬ a.length = b.length) : vQ a b = false := k42 fun e => h (by rw [e])
theorem o3 {a b : List Int} {k : Nat} (h : ¬ List.getD a k 0 = List.getD b k 0) : vQ a b = false := k42 fun e => h (by rw [e])
end Go.Proofs.YtcfmjpnffembpaaGreat
namespace Go.Proofs.YtcfmjpnffembpaaGreat
open Go.ChangeShapes Go.WideShapes Go.ChangeAt Go.RowKit
set_option linter.unusedVariables false
set_option linter.unusedSimpArgs false
set_option maxHeartbeats 4000000
set_option maxRecDepth 100000
theorem aZ {p : Prop} (h : p := by first | omega | assumption | simp) : p := h
theorem vA {p : Prop} (h : p := by first | omega | (simp only [uK, iN, fS, qX, List.length_append, List.length_cons, List.length_nil, List.length_take, List.length_drop, List.length_replicate, List.length_set, List.length_map, List.length_reverse, Nat.mul_one] <;> omega) | rfl) : p := h
theorem gF {p : Prop} (h : p := by first | rfl | omega | assumption | (simp; done) | (simp; omega)) : p := h
theorem gE {p : Prop} (h : p := by first | omega | (show _ < _; simp; omega)) : p := h
theorem n6 (l : List Int) (n : Nat) (v : Int) (hn : List.length l = n) (hm : n ≤ 1000000) : Fun 118 [.c (.d (D.sl (dI .i64 l) n)), iE v] (kK []) 0 (iV (qQ l v n)) (kK []) 0 := by
 refine Fun.mk (n := 19) Tryz.func118 rfl rfl (Nat.le_of_ble_eq_true rfl) ?_
 intro cx hcx
 refine kL [.no] True [(0, sV .i64 l n), (1, iV v)] [] 0 trivial ?_
 refine AW.seq ?_
 refine kP [.no, .no, .no] True [(0, sV .i64 l n), (1, iV v), (7, uV n), (8, iV 0)] trivial ?_
 refine AW.block ?_
 refine kZ 0 hcx (fun (x : {x : Nat // match x with | k => (k ≤ n) ∧ (qQ l v k = -1)}) => match x with | ⟨k, _⟩ => (⟨[(0, sV .i64 l n), (1, iV v), (7, uV n), (8, uV k)], [], 0⟩ : ES)) (fun x => match x with | ⟨k, _⟩ => n - k) ⟨(0 : Nat), ⟨aZ, rfl⟩⟩ [] (P := (kM (dI .i64 l)) ∧ (kH n) ∧ (kO v) ∧ (kO (n : Int)) ∧ (kO 0)) zk ⟨rfl, rfl, rfl, rfl, rfl⟩ ?_
 rintro ⟨k, hinv0⟩
 obtain ⟨hk, hi⟩ : (k ≤ n) ∧ (qQ l v k = -1) := hinv0
 refine qT (l := [(0, sV .i64 l n), (1, iV v), (7, uV n), (8, uV k)]) (g := []) (nx := 0) rfl rfl rfl ?_
 by_cases hx1 : (((k : Nat) : Int) < ((n : Nat) : Int))
 ·refine kL [.b true] (((k : Int) < (n : Int))) [(0, sV .i64 l n), (1, iV v), (7, uV n), (8, uV k), (9, bV true)] [] 0 zo ?_
  refine AW.seq ?_
  refine vP ?_
  refine AW.seq ?_
  refine AW.block ?_
  refine kP [.no, .no] True [(0, sV .i64 l n), (1, iV v), (5, uV k), (7, uV n), (8, uV k)] trivial ?_
  by_cases hx2 : (v = (List.getD l k 0))
  ·refine kP [.no, .no, .no, .n k, .d (D.lit (.int .i64 (List.getD l k 0))), .b true] ((kO (k : Int)) ∧ (k < n) ∧ ((List.drop k (dI .i64 l))[0]? = some (D.lit (.int .i64 (List.getD l k 0)))) ∧ ((v = (List.getD l k 0)))) [(0, sV .i64 l n), (1, iV v), (5, uV k), (7, uV n), (8, uV k), (16, bV true)] ⟨rfl, zo, (q5 _ _ _ vA), zo⟩ ?_
   refine zt ?_
   refine kP [.no, .no] True [(4, uV k)] trivial ?_
   refine AW.ret ?_
   exact kD (.inr rfl) [] (P := (((qQ l v n) : Int) = (k : Int))) zk (by first | rfl | exact fF hi zo n zo | (rw [show n = k by omega]; exact hi))
  ·refine kP [.no, .no, .no, .n k, .d (D.lit (.int .i64 (List.getD l k 0))), .b false] ((kO (k : Int)) ∧ (k < n) ∧ ((List.drop k (dI .i64 l))[0]? = some (D.lit (.int .i64 (List.getD l k 0)))) ∧ (¬ (v = (List.getD l k 0)))) [(0, sV .i64 l n), (1, iV v), (5, uV k), (7, uV n), (8, uV k), (16, bV false)] ⟨rfl, zo, (q5 _ _ _ vA), zo⟩ ?_
   refine uB ?_
   refine uS [.w, .no] ((-9223372036854775808) ≤ ((k : Int) + 1) ∧ ((k : Int) + 1) ≤ 9223372036854775807) [(0, sV .i64 l n), (1, iV v), (7, uV n), (8, iV (↑k + 1))] ⟨by omega, by omega⟩ ?_
   exact kW ⟨((k + 1) : Nat), ⟨aZ, (pN hi zo)⟩⟩ [] (P := (kM (dI .i64 l)) ∧ (kH n) ∧ (kO v) ∧ (kO (n : Int)) ∧ (((((k + 1) : Nat) : Int) : Int) = ((k : Int) + 1))) zk ⟨rfl, rfl, rfl, rfl, gF⟩ (show n - (k + 1) < n - k from gE)
 ·refine kL [.b false] (¬ ((k : Int) < (n : Int))) [(0, sV .i64 l n), (1, iV v), (7, uV n), (8, uV k), (9, bV false)] [] 0 zo ?_
  refine AW.seq ?_
  refine zf ?_
  refine AW.exit ?_
  refine kL [.no] True [(4, iV (-1))] [] 0 trivial ?_
  refine AW.ret ?_
  exact kD (.inr rfl) [] (P := (((qQ l v n) : Int) = (-1))) zk (by first | rfl | exact fF hi zo n zo | (rw [show n = k by omega]; exact hi))
theorem jH (l : List Int) (n : Nat) (v : Int) (hn : List.length l = n) (hm : n ≤ 1000000) : Fun 133 [.c (.d (D.sl (dI .i64 l) n)), iE v] (kK []) 0 (iV (qQ l v n)) (kK []) 0 := by
 refine Fun.mk (n := 19) Tryz.func133 rfl rfl (Nat.le_of_ble_eq_true rfl) ?_
 intro cx hcx
 refine kL [.no] True [(0, sV .i64 l n), (1, iV v)] [] 0 trivial ?_
 refine AW.seq ?_
 refine kP [.no, .no, .no] True [(1, iV v), (7, sV .i64 l n), (8, uV n), (9, iV 0)] trivial ?_
 refine AW.block ?_
 refine kZ 0 hcx (fun (x : {x : Nat // match x with | k => (k ≤ n) ∧ (qQ l v k = -1)}) => match x with | ⟨k, _⟩ => (⟨[(1, iV v), (7, sV .i64 l n), (8, uV n), (9, uV k)], [], 0⟩ : ES)) (fun x => match x with | ⟨k, _⟩ => n - k) ⟨(0 : Nat), ⟨aZ, rfl⟩⟩ [] (P := (kO v) ∧ (kM (dI .i64 l)) ∧ (kH n) ∧ (kO (n : Int)) ∧ (kO 0)) zk ⟨rfl, rfl, rfl, rfl, rfl⟩ ?_
 rintro ⟨k, hinv0⟩
 obtain ⟨hk, hi⟩ : (k ≤ n) ∧ (qQ l v k = -1) := hinv0
 refine qT (l := [(1, iV v), (7, sV .i64 l n), (8, uV n), (9, uV k)]) (g := []) (nx := 0) rfl rfl rfl ?_
 by_cases hx1 : (((k : Nat) : Int) < ((n : Nat) : Int))
 ·refine kL [.b true] (((k : Int) < (n : Int))) [(1, iV v), (7, sV .i64 l n), (8, uV n), (9, uV k), (10, bV true)] [] 0 zo ?_
  refine AW.seq ?_
  refine vP ?_
  refine AW.seq ?_
  refine AW.block ?_
  refine kP [.no, .n k, .d (D.lit (.int .i64 (List.getD l k 0))), .no, .no] ((kO (k : Int)) ∧ (k < n) ∧ ((List.drop k (dI .i64 l))[0]? = some (D.lit (.int .i64 (List.getD l k 0))))) [(1, iV v), (5, uV k), (6, iV (List.getD l k 0)), (7, sV .i64 l n), (8, uV n), (9, uV k)] ⟨rfl, zo, (q5 _ _ _ vA)⟩ ?_
  by_cases hx2 : ((List.getD l k 0) = v)
  ·refine kP [.no, .no, .b true] (((List.getD l k 0) = v)) [(1, iV v), (5, uV k), (7, sV .i64 l n), (8, uV n), (9, uV k), (16, bV true)] zo ?_
   refine zt ?_
   refine kP [.no, .no] True [(4, uV k)] trivial ?_
   refine AW.ret ?_
   exact kD (.inr rfl) [] (P := (((qQ l v n) : Int) = (k : Int))) zk (by first | rfl | exact fF hi zo n zo | (rw [show n = k by omega]; exact hi))
  ·refine kP [.no, .no, .b false] (¬ ((List.getD l k 0) = v)) [(1, iV v), (5, uV k), (7, sV .i64 l n), (8, uV n), (9, uV k), (16, bV false)] zo ?_
   refine uB ?_
   refine uS [.w, .no] ((-9223372036854775808) ≤ ((k : Int) + 1) ∧ ((k : Int) + 1) ≤ 9223372036854775807) [(1, iV v), (7, sV .i64 l n), (8, uV n), (9, iV (↑k + 1))] ⟨by omega, by omega⟩ ?_
   exact kW ⟨((k + 1) : Nat), ⟨aZ, (pN hi zo)⟩⟩ [] (P := (kO v) ∧ (kM (dI .i64 l)) ∧ (kH n) ∧ (kO (n : Int)) ∧ (((((k + 1) : Nat) : Int) : Int) = ((k : Int) + 1))) zk ⟨rfl, rfl, rfl, rfl, gF⟩ (show n - (k + 1) < n - k from gE)
 ·refine kL [.b false] (¬ ((k : Int) < (n : Int))) [(1, iV v), (7, sV .i64 l n), (8, uV n), (9, uV k), (10, bV false)] [] 0 zo ?_
  refine AW.seq ?_
  refine zf ?_
  refine AW.exit ?_
  refine kL [.no] True [(4, iV (-1))] [] 0 trivial ?_
  refine AW.ret ?_
  exact kD (.inr rfl) [] (P := (((qQ l v n) : Int) = (-1))) zk (by first | rfl | exact fF hi zo n zo | (rw [show n = k by omega]; exact hi))
theorem mV (l : List Int) (n : Nat) (v : Int) (hn : List.length l = n) (hm : n ≤ 1000000) : Fun 141 [.c (.d (D.sl (dI .i64 l) n)), iE v] (kK []) 0 (iV (qQ l v n)) (kK []) 0 := by
 refine Fun.mk (n := 8) Tryz.func141 rfl rfl (Nat.le_of_ble_eq_true rfl) ?_
 intro cx hcx
 refine kL [.no] True [(0, sV .i64 l n), (1, iV v)] [] 0 trivial ?_
 have hx1 : ((((-1) : Int) ≤ (qQ l v n)) ∧ ((qQ l v n) < ((n : Nat) : Int))) := vC l v n
 refine kP [.no, .no, .call [] (iV (qQ l v n)) [] 0 [] none, .no] _ [(4, iV (qQ l v n))] (n6 l n v zo zo) ?_
 refine AW.ret ?_
 exact kD (.inr rfl) [] (P := (kO (qQ l v n))) zk rfl
theorem tN {p : Prop} (h : p := by first | rfl | assumption | exact decide_eq_true (by omega) | exact decide_eq_false (by omega) | (simp; omega)) : p := h
theorem k7k (p : Int)  : Fun 148 [iE p] (kK []) 0 (qY (D.lit (.bool (decide (1 ≤ p ∧ p ≤ 8))))) (kK []) 0 := by
 refine Fun.mk (n := 9) Tryz.func148 rfl rfl (Nat.le_of_ble_eq_true rfl) ?_
 intro cx hcx
 refine kL [.no] True [(0, iV p)] [] 0 trivial ?_
 by_cases hx1 : ((1 : Int) ≤ p)
 ·by_cases hx2 : (p ≤ 8)
  ·refine kP [.no, .b true, .no, .no, .b true, .no, .no] ((((1 : Int) ≤ p)) ∧ ((p ≤ 8))) [(2, bV true)] ⟨zo, zo⟩ ?_
   refine AW.ret ?_
   exact kD (.inr rfl) [] (P := ((decide (1 ≤ p ∧ p ≤ 8)) = true)) zk tN
  ·refine kP [.no, .b true, .no, .no, .b false, .no, .no] ((((1 : Int) ≤ p)) ∧ (¬ (p ≤ 8))) [(2, bV false)] ⟨zo, zo⟩ ?_
   refine AW.ret ?_
   exact kD (.inr rfl) [] (P := ((decide (1 ≤ p ∧ p ≤ 8)) = false)) zk tN
 ·refine kP [.no, .b false, .no, .no, .no] (¬ ((1 : Int) ≤ p)) [(2, bV false)] zo ?_
  refine AW.ret ?_
  exact kD (.inr rfl) [] (P := ((decide (1 ≤ p ∧ p ≤ 8)) = false)) zk tN
theorem s7 (l : List Int) (n : Nat) (hn : List.length l = n) (hm : n ≤ 1000000) : Fun 131 [.c (.d (D.sl (dI .i64 l) n))] (kK []) 0 (qY (D.lit (.bool (mS l n)))) (kK []) 0 := by
 refine Fun.mk (n := 31) Tryz.func131 rfl rfl (Nat.le_of_ble_eq_true rfl) ?_
 intro cx hcx
 refine kL [.no] True [(0, sV .i64 l n)] [] 0 trivial ?_
 refine AW.seq ?_
 by_cases hx1 : (((n : Nat) : Int) < 1)
 ·refine kP [.no, .no, .b true, .no, .no] (((n : Int) < 1)) [(0, sV .i64 l n), (12, bV true)] zo ?_
  refine zt ?_
  refine kP [.no] True [(2, bV false)] trivial ?_
  refine AW.ret ?_
  exact kD (.inr rfl) [] (P := ((mS l n) = false)) zk (by first | exact fK zo (fun j hj => ha j zo) | exact fM zo | exact fL (k := k) zo (decide_eq_false zo))
 ·by_cases hx2 : ((8 : Int) < ((n : Nat) : Int))
  ·refine kP [.no, .no, .b false, .no, .no, .no, .b true, .no] ((¬ ((n : Int) < 1)) ∧ (((8 : Int) < (n : Int)))) [(0, sV .i64 l n), (12, bV true)] ⟨zo, zo⟩ ?_
   refine zt ?_
   refine kP [.no] True [(2, bV false)] trivial ?_
   refine AW.ret ?_
   exact kD (.inr rfl) [] (P := ((mS l n) = false)) zk (by first | exact fK zo (fun j hj => ha j zo) | exact fM zo | exact fL (k := k) zo (decide_eq_false zo))
  ·refine kP [.no, .no, .b false, .no, .no, .no, .b false, .no] ((¬ ((n : Int) < 1)) ∧ (¬ ((8 : Int) < (n : Int)))) [(0, sV .i64 l n), (12, bV false)] ⟨zo, zo⟩ ?_
   refine uB ?_
   refine AW.seq ?_
   refine kP [.no, .no, .no] True [(0, sV .i64 l n), (13, sV .i64 l n), (14, uV n), (15, iV 0)] trivial ?_
   refine AW.block ?_
   refine kZ 0 hcx (fun (x : {x : Nat // match x with | k => (k ≤ n) ∧ (∀ j, j < k → chE l n j = true)}) => match x with | ⟨k, _⟩ => (⟨[(0, sV .i64 l n), (13, sV .i64 l n), (14, uV n), (15, uV k)], [], 0⟩ : ES)) (fun x => match x with | ⟨k, _⟩ => n - k) ⟨(0 : Nat), ⟨aZ, (fun j hj => absurd hj (Nat.not_lt_zero j))⟩⟩ [] (P := (kM (dI .i64 l)) ∧ (kH n) ∧ (kM (dI .i64 l)) ∧ (kH n) ∧ (kO (n : Int)) ∧ (kO 0)) zk ⟨rfl, rfl, rfl, rfl, rfl, rfl⟩ ?_
   rintro ⟨k, hinv0⟩
   obtain ⟨hk, ha⟩ : (k ≤ n) ∧ (∀ j, j < k → chE l n j = true) := hinv0
   refine qT (l := [(0, sV .i64 l n), (13, sV .i64 l n), (14, uV n), (15, uV k)]) (g := []) (nx := 0) rfl rfl rfl ?_
   by_cases hx3 : (((k : Nat) : Int) < ((n : Nat) : Int))
   ·refine kL [.b true] (((k : Int) < (n : Int))) [(0, sV .i64 l n), (13, sV .i64 l n), (14, uV n), (15, uV k), (16, bV true)] [] 0 zo ?_
    refine AW.seq ?_
    refine vP ?_
    refine AW.seq ?_
    refine AW.block ?_
    refine kP [.no, .n k, .d (D.lit (.int .i64 (List.getD l k 0))), .no, .no] ((kO (k : Int)) ∧ (k < n) ∧ ((List.drop k (dI .i64 l))[0]? = some (D.lit (.int .i64 (List.getD l k 0))))) [(0, sV .i64 l n), (3, uV k), (4, iV (List.getD l k 0)), (13, sV .i64 l n), (14, uV n), (15, uV k)] ⟨rfl, zo, (q5 _ _ _ vA)⟩ ?_
    rcases Bool.eq_false_or_eq_true (decide (1 ≤ (List.getD l k 0) ∧ (List.getD l k 0) ≤ 8)) with hx4 | hx4
    ·have hx5 : (((1 : Int) ≤ (List.getD l k 0)) ∧ ((List.getD l k 0) ≤ 8)) := of_decide_eq_true hx4
     by_cases hx7 : ((qQ l (List.getD l k 0) n) ≠ ((k : Nat) : Int))
     ·have hx8 : ((((-1) : Int) ≤ (qQ l (List.getD l k 0) n)) ∧ ((qQ l (List.getD l k 0) n) < ((n : Nat) : Int))) := vC l (List.getD l k 0) n
      refine kP (.no :: .call [] (bV true) [] 0 [] none :: qA 4 [.call [] (iV (qQ l (List.getD l k 0) n)) [] 0 [] none, .no, .b true, .no]) ((Fun 148 [iE (List.getD l k 0)] (kK []) 0 (bV true) (kK []) 0) ∧ (_) ∧ (((qQ l (List.getD l k 0) n) ≠ (k : Int)))) [(0, sV .i64 l n), (13, sV .i64 l n), (14, uV n), (15, uV k), (29, bV true)] ⟨(by have h0 := (k7k (List.getD l k 0)); rw [hx4] at h0; exact h0), (mV l n (List.getD l k 0) zo zo), zo⟩ ?_
      refine zt ?_
      refine kP [.no] True [(2, bV false)] trivial ?_
      refine AW.ret ?_
      exact kD (.inr rfl) [] (P := ((mS l n) = false)) zk (by first | exact fK zo (fun j hj => ha j zo) | exact fM zo | exact fL (k := k) zo (decide_eq_false zo))
     ·have hx9 : ((((-1) : Int) ≤ (qQ l (List.getD l k 0) n)) ∧ ((qQ l (List.getD l k 0) n) < ((n : Nat) : Int))) := vC l (List.getD l k 0) n
      refine kP (.no :: .call [] (bV true) [] 0 [] none :: qA 4 [.call [] (iV (qQ l (List.getD l k 0) n)) [] 0 [] none, .no, .b false, .no]) ((Fun 148 [iE (List.getD l k 0)] (kK []) 0 (bV true) (kK []) 0) ∧ (_) ∧ (¬ ((qQ l (List.getD l k 0) n) ≠ (k : Int)))) [(0, sV .i64 l n), (13, sV .i64 l n), (14, uV n), (15, uV k), (29, bV false)] ⟨(by have h0 := (k7k (List.getD l k 0)); rw [hx4] at h0; exact h0), (mV l n (List.getD l k 0) zo zo), zo⟩ ?_
      refine uB ?_
      refine uS [.w, .no] ((-9223372036854775808) ≤ ((k : Int) + 1) ∧ ((k : Int) + 1) ≤ 9223372036854775807) [(0, sV .i64 l n), (13, sV .i64 l n), (14, uV n), (15, iV (↑k + 1))] ⟨by omega, by omega⟩ ?_
      exact kW ⟨((k + 1) : Nat), ⟨aZ, (fun j hj => (Nat.lt_succ_iff_lt_or_eq.1 hj).elim (ha j) (fun e9 => by subst e9; exact decide_eq_true zo))⟩⟩ [] (P := (kM (dI .i64 l)) ∧ (kH n) ∧ (kM (dI .i64 l)) ∧ (kH n) ∧ (kO (n : Int)) ∧ (((((k + 1) : Nat) : Int) : Int) = ((k : Int) + 1))) zk ⟨rfl, rfl, rfl, rfl, rfl, gF⟩ (show n - (k + 1) < n - k from gE)
    ·have hx10 : ¬ (((1 : Int) ≤ (List.getD l k 0)) ∧ ((List.getD l k 0) ≤ 8)) := of_decide_eq_false hx4
     refine kP [.no, .call [] (bV false) [] 0 [] none, .no, .no, .no] (Fun 148 [iE (List.getD l k 0)] (kK []) 0 (bV false) (kK []) 0) [(0, sV .i64 l n), (13, sV .i64 l n), (14, uV n), (15, uV k), (29, bV true)] (by have h0 := (k7k (List.getD l k 0)); rw [hx4] at h0; exact h0) ?_
     refine zt ?_
     refine kP [.no] True [(2, bV false)] trivial ?_
     refine AW.ret ?_
     exact kD (.inr rfl) [] (P := ((mS l n) = false)) zk (by first | exact fK zo (fun j hj => ha j zo) | exact fM zo | exact fL (k := k) zo (decide_eq_false zo))
   ·refine kL [.b false] (¬ ((k : Int) < (n : Int))) [(0, sV .i64 l n), (13, sV .i64 l n), (14, uV n), (15, uV k), (16, bV false)] [] 0 zo ?_
    refine AW.seq ?_
    refine zf ?_
    refine AW.exit ?_
    refine kL [.no] True [(2, bV true)] [] 0 trivial ?_
    refine AW.ret ?_
    exact kD (.inr rfl) [] (P := ((mS l n) = true)) zk (by first | exact fK zo (fun j hj => ha j zo) | exact fM zo | exact fL (k := k) zo (decide_eq_false zo))
theorem n7 (l : List Int) (n : Nat) (hn : List.length l = n) (hm : n ≤ 1000000) : Fun 91 [.c (.d (D.sl (dI .i64 l) n))] (kK []) 0 (qY (D.lit (.bool (mS l n)))) (kK []) 0 := by
 refine Fun.mk (n := 34) Tryz.func91 rfl rfl (Nat.le_of_ble_eq_true rfl) ?_
 intro cx hcx
 refine kL [.no] True [(0, sV .i64 l n)] [] 0 trivial ?_
 refine AW.seq ?_
 refine kP [.no, .no, .no] True [(0, sV .i64 l n), (5, sV .i64 l n), (6, uV n), (7, iV 0)] trivial ?_
 refine AW.block ?_
 refine kZ 0 hcx (fun (x : {x : Nat // match x with | k => (k ≤ n) ∧ (∀ j, j < k → chE l n j = true)}) => match x with | ⟨k, _⟩ => (⟨[(0, sV .i64 l n), (5, sV .i64 l n), (6, uV n), (7, uV k)], [], 0⟩ : ES)) (fun x => match x with | ⟨k, _⟩ => n - k) ⟨(0 : Nat), ⟨aZ, (fun j hj => absurd hj (Nat.not_lt_zero j))⟩⟩ [] (P := (kM (dI .i64 l)) ∧ (kH n) ∧ (kM (dI .i64 l)) ∧ (kH n) ∧ (kO (n : Int)) ∧ (kO 0)) zk ⟨rfl, rfl, rfl, rfl, rfl, rfl⟩ ?_
 rintro ⟨k, hinv0⟩
 obtain ⟨hk, ha⟩ : (k ≤ n) ∧ (∀ j, j < k → chE l n j = true) := hinv0
 refine qT (l := [(0, sV .i64 l n), (5, sV .i64 l n), (6, uV n), (7, uV k)]) (g := []) (nx := 0) rfl rfl rfl ?_
 by_cases hx1 : (((k : Nat) : Int) < ((n : Nat) : Int))
 ·refine kL [.b true] (((k : Int) < (n : Int))) [(0, sV .i64 l n), (5, sV .i64 l n), (6, uV n), (7, uV k), (8, bV true)] [] 0 zo ?_
  refine AW.seq ?_
  refine vP ?_
  refine AW.seq ?_
  refine AW.block ?_
  refine kP [.no, .n k, .d (D.lit (.int .i64 (List.getD l k 0))), .no, .no] ((kO (k : Int)) ∧ (k < n) ∧ ((List.drop k (dI .i64 l))[0]? = some (D.lit (.int .i64 (List.getD l k 0))))) [(0, sV .i64 l n), (3, uV k), (4, iV (List.getD l k 0)), (5, sV .i64 l n), (6, uV n), (7, uV k)] ⟨rfl, zo, (q5 _ _ _ vA)⟩ ?_
  by_cases hx2 : ((List.getD l k 0) < 1)
  ·refine kP (.no :: .b true :: qA 4 []) (((List.getD l k 0) < 1)) [(0, sV .i64 l n), (5, sV .i64 l n), (6, uV n), (7, uV k), (24, bV true)] zo ?_
   refine zt ?_
   refine kP [.no] True [(2, bV false)] trivial ?_
   refine AW.ret ?_
   exact kD (.inr rfl) [] (P := ((mS l n) = false)) zk (by first | exact fK zo (fun j hj => ha j zo) | exact fM zo | exact fL (k := k) zo (decide_eq_false zo))
  ·by_cases hx3 : ((8 : Int) < (List.getD l k 0))
   ·refine kP [.no, .b false, .no, .no, .b true, .no, .no, .no] ((¬ ((List.getD l k 0) < 1)) ∧ (((8 : Int) < (List.getD l k 0)))) [(0, sV .i64 l n), (5, sV .i64 l n), (6, uV n), (7, uV k), (24, bV true)] ⟨zo, zo⟩ ?_
    refine zt ?_
    refine kP [.no] True [(2, bV false)] trivial ?_
    refine AW.ret ?_
    exact kD (.inr rfl) [] (P := ((mS l n) = false)) zk (by first | exact fK zo (fun j hj => ha j zo) | exact fM zo | exact fL (k := k) zo (decide_eq_false zo))
   ·by_cases hx5 : ((qQ l (List.getD l k 0) n) ≠ ((k : Nat) : Int))
    ·have hx6 : ((((-1) : Int) ≤ (qQ l (List.getD l k 0) n)) ∧ ((qQ l (List.getD l k 0) n) < ((n : Nat) : Int))) := vC l (List.getD l k 0) n
     refine kP (.no :: .b false :: .no :: .no :: .b false :: qA 4 [.call [] (iV (qQ l (List.getD l k 0) n)) [] 0 [] none, .no, .b true, .no]) ((¬ ((List.getD l k 0) < 1)) ∧ (¬ ((8 : Int) < (List.getD l k 0))) ∧ (_) ∧ (((qQ l (List.getD l k 0) n) ≠ (k : Int)))) [(0, sV .i64 l n), (5, sV .i64 l n), (6, uV n), (7, uV k), (24, bV true)] ⟨zo, zo, (jH l n (List.getD l k 0) zo zo), zo⟩ ?_
     refine zt ?_
     refine kP [.no] True [(2, bV false)] trivial ?_
     refine AW.ret ?_
     exact kD (.inr rfl) [] (P := ((mS l n) = false)) zk (by first | exact fK zo (fun j hj => ha j zo) | exact fM zo | exact fL (k := k) zo (decide_eq_false zo))
    ·have hx7 : ((((-1) : Int) ≤ (qQ l (List.getD l k 0) n)) ∧ ((qQ l (List.getD l k 0) n) < ((n : Nat) : Int))) := vC l (List.getD l k 0) n
     refine kP (.no :: .b false :: .no :: .no :: .b false :: qA 4 [.call [] (iV (qQ l (List.getD l k 0) n)) [] 0 [] none, .no, .b false, .no]) ((¬ ((List.getD l k 0) < 1)) ∧ (¬ ((8 : Int) < (List.getD l k 0))) ∧ (_) ∧ (¬ ((qQ l (List.getD l k 0) n) ≠ (k : Int)))) [(0, sV .i64 l n), (5, sV .i64 l n), (6, uV n), (7, uV k), (24, bV false)] ⟨zo, zo, (jH l n (List.getD l k 0) zo zo), zo⟩ ?_
     refine uB ?_
     refine uS [.w, .no] ((-9223372036854775808) ≤ ((k : Int) + 1) ∧ ((k : Int) + 1) ≤ 9223372036854775807) [(0, sV .i64 l n), (5, sV .i64 l n), (6, uV n), (7, iV (↑k + 1))] ⟨by omega, by omega⟩ ?_
     exact kW ⟨((k + 1) : Nat), ⟨aZ, (fun j hj => (Nat.lt_succ_iff_lt_or_eq.1 hj).elim (ha j) (fun e9 => by subst e9; exact decide_eq_true zo))⟩⟩ [] (P := (kM (dI .i64 l)) ∧ (kH n) ∧ (kM (dI .i64 l)) ∧ (kH n) ∧ (kO (n : Int)) ∧ (((((k + 1) : Nat) : Int) : Int) = ((k : Int) + 1))) zk ⟨rfl, rfl, rfl, rfl, rfl, gF⟩ (show n - (k + 1) < n - k from gE)
 ·refine kL [.b false] (¬ ((k : Int) < (n : Int))) [(0, sV .i64 l n), (5, sV .i64 l n), (6, uV n), (7, uV k), (8, bV false)] [] 0 zo ?_
  refine AW.seq ?_
  refine zf ?_
  refine AW.exit ?_
  by_cases hx8 : ((1 : Int) ≤ ((n : Nat) : Int))
  ·by_cases hx9 : (((n : Nat) : Int) ≤ 8)
   ·refine kL [.no, .no, .b true, .no, .no, .no, .b true, .no, .no] ((((1 : Int) ≤ (n : Int))) ∧ (((n : Int) ≤ 8))) [(2, bV true)] [] 0 ⟨zo, zo⟩ ?_
    refine AW.ret ?_
    exact kD (.inr rfl) [] (P := ((mS l n) = true)) zk (by first | exact fK zo (fun j hj => ha j zo) | exact fM zo | exact fL (k := k) zo (decide_eq_false zo))
   ·refine kL [.no, .no, .b true, .no, .no, .no, .b false, .no, .no] ((((1 : Int) ≤ (n : Int))) ∧ (¬ ((n : Int) ≤ 8))) [(2, bV false)] [] 0 ⟨zo, zo⟩ ?_
    refine AW.ret ?_
    exact kD (.inr rfl) [] (P := ((mS l n) = false)) zk (by first | exact fK zo (fun j hj => ha j zo) | exact fM zo | exact fL (k := k) zo (decide_eq_false zo))
  ·refine kL [.no, .no, .b false, .no, .no, .no] (¬ ((1 : Int) ≤ (n : Int))) [(2, bV false)] [] 0 zo ?_
   refine AW.ret ?_
   exact kD (.inr rfl) [] (P := ((mS l n) = false)) zk (by first | exact fK zo (fun j hj => ha j zo) | exact fM zo | exact fL (k := k) zo (decide_eq_false zo))
theorem oZ (l : List Int) (n : Nat) (hn : List.length l = n) (hb : n ≤ 1000000) (h1 : 1 ≤ n) : Fun 56 [.c (.d (D.sl (dI .i64 l) n))] (kK []) 0 (oV 0 0 n 1) (kK [(0, some (3, .ds (dI .i64 l)))]) 1 := by
 refine Fun.mk (n := 8) Tryz.func56 rfl rfl (Nat.le_of_ble_eq_true rfl) ?_
 intro cx hcx
 refine kL [.no] True [(0, sV .i64 l n)] [] 0 trivial ?_
 refine AW.seq ?_
 refine kP [.no, .no] (1 ≤ n) [(0, sV .i64 l n), (4, bV false)] zo ?_
 refine uB ?_
 refine kL [.no, .no, .ap none (0 + n) (dI .i64 l), .no] (((dI .i64 l).length = n * 1) ∧ ((([] : List D) : List D).length = 0 * 1) ∧ ((0 + n) * 8 ≤ 140737488355328) ∧ ((0 : Nat) + n = (0 + n)) ∧ ((([] : List D) : List D) ++ (dI .i64 l) = (dI .i64 l))) [(2, oV 1 0 (0 + n) 1)] [(1, some (3, .ds (dI .i64 l)))] 2 ⟨vA, vA, zo, zo, rfl⟩ ?_
 refine AW.ret ?_
 exact kD (.inr rfl) [(0, 1)] (P := (kH 0) ∧ ((n : Nat) = (0 + n)) ∧ (kM (dI .i64 l))) zk ⟨rfl, (by first | omega | rfl | assumption | (simp; done) | (simp; omega)), rfl⟩
theorem oY   : Fun 56 [.c (.d (D.lit (.slice none 0 0)))] (kK []) 0 (oV 0 0 0 1) (kK [(0, some (3, .ds ([] : List D)))]) 1 := by
 refine Fun.mk (n := 8) Tryz.func56 rfl rfl (Nat.le_of_ble_eq_true rfl) ?_
 intro cx hcx
 refine kL [.no] True [(0, nV)] [] 0 trivial ?_
 refine AW.seq ?_
 refine kP [.no, .no] True [(0, nV), (4, bV true)] trivial ?_
 refine zt ?_
 refine kP [.no] True [(2, nV)] trivial ?_
 refine AW.adoptS 2 1 3 rfl ?_
 refine AW.ret ?_
 exact kD (.inr rfl) [] (P := (kH 0) ∧ (kH 0) ∧ (kM ([] : List D))) zk ⟨rfl, rfl, rfl⟩
theorem oX (a : Addr) (cap : Nat) (hm : cap ≤ maxLen) : Fun 56 [.c (.d (D.lit (.slice (some a) 0 cap)))] (kK []) 0 (oV 0 0 0 1) (kK [(0, some (3, .ds ([] : List D)))]) 1 := by
 refine Fun.mk (n := 8) Tryz.func56 rfl rfl (Nat.le_of_ble_eq_true rfl) ?_
 intro cx hcx
 refine kL [.no] True [(0, qY (D.lit (.slice (some a) 0 cap)))] [] 0 trivial ?_
 refine AW.seq ?_
 refine kP [.no, .no] True [(0, qY (D.lit (.slice (some a) 0 cap))), (4, bV false)] trivial ?_
 refine uB ?_
 refine k7w 0 hm (fun h9 => by cases h9) rfl ?_
 refine kL [.no, .no, .ap none 0 ([] : List D), .no] ((([] : List D).length = 0 * 1) ∧ ((([] : List D) : List D).length = 0 * 1) ∧ ((0 + 0) * 8 ≤ 140737488355328) ∧ ((0 : Nat) + 0 = 0) ∧ ((([] : List D) : List D) ++ ([] : List D) = ([] : List D))) [(2, oV 1 0 0 1)] [(1, some (3, .ds ([] : List D)))] 2 ⟨vA, vA, zo, zo, rfl⟩ ?_
 refine AW.ret ?_
 exact kD (.inr rfl) [(0, 1)] (P := (kH 0) ∧ (kH 0) ∧ (kM ([] : List D))) zk ⟨rfl, rfl, rfl⟩
theorem l1 (l : List Int) (n : Nat) (hn : List.length l = n) (hb : n ≤ 1000000) : Fun 56 [.c (.d (D.sl (dI .i64 l) n))] (kK []) 0 (oV 0 0 n 1) (kK [(0, some (3, .ds (dI .i64 l)))]) 1 := by
 by_cases h1 : 1 ≤ n
 ·exact oZ l n hn hb h1
 ·obtain rfl : n = 0 := by omega
  obtain rfl : l = [] := List.eq_nil_of_length_eq_zero hn
  exact Fun.nil0 oY (fun a cap hm => oX a cap hm)
theorem k0h {p : Prop} (h : p := by first | assumption | (simp only [uK, iN, fS, List.length_append, List.length_cons, List.length_nil] <;> omega)) : p := h
theorem k7l (a b : List Int) (n m : Nat) (hn : List.length a = n) (hm : List.length b = m) (h2 : n ≤ 1000000) (h3 : m ≤ 1000000) : Fun 111 [.c (.d (D.sl (dI .i64 a) n)), .c (.d (D.sl (dI .i64 b) m))] (kK []) 0 (sV .i64 (yS a b m) (List.length (yS a b m))) (kK []) 0 := by
 refine Fun.mk (n := 24) Tryz.func111 rfl rfl (Nat.le_of_ble_eq_true rfl) ?_
 intro cx hcx
 refine kL [.no] True [(0, sV .i64 a n), (1, sV .i64 b m)] [] 0 trivial ?_
 refine kP [.no] True [(0, sV .i64 a n), (1, sV .i64 b m), (5, nV)] trivial ?_
 refine AW.seq ?_
 refine kP [.no, .no, .no] True [(1, sV .i64 b m), (5, nV), (8, sV .i64 a n), (9, uV n), (10, iV 0)] trivial ?_
 refine AW.block ?_
 refine AW.adoptS 5 1 3 rfl ?_
 refine kZ 0 hcx (fun (x : {x : Nat × Nat × List Int // match x with | (i, k, o) => (i ≤ n ∧ k ≤ i) ∧ (CO a b m i o) ∧ (List.length o = k)}) => match x with | ⟨(i, k, o), _⟩ => (⟨[(1, sV .i64 b m), (5, oV 1 0 k 1), (8, sV .i64 a n), (9, uV n), (10, uV i)], [(1, some (3, .ds (dI .i64 o)))], 2⟩ : ES)) (fun x => match x with | ⟨(i, k, o), _⟩ => n - i) ⟨((0 : Nat), (0 : Nat), (([] : List Int) : List Int)), ⟨aZ, (CO.zero a b m), rfl⟩⟩ [(1, 0)] (P := (kM (dI .i64 b)) ∧ (kH m) ∧ (kH 0) ∧ (kH 0) ∧ (kM (dI .i64 a)) ∧ (kH n) ∧ (kO (n : Int)) ∧ (kO 0) ∧ (((dI .i64 ([] : List Int)) : List D) = ([] : List D))) zk ⟨rfl, rfl, rfl, rfl, rfl, rfl, rfl, rfl, (by first | rfl | with_reducible assumption)⟩ ?_
 rintro ⟨⟨i, k, o⟩, hinv0⟩
 obtain ⟨hi, hC, ho⟩ : (i ≤ n ∧ k ≤ i) ∧ (CO a b m i o) ∧ (List.length o = k) := hinv0
 refine qT (l := [(1, sV .i64 b m), (5, oV 1 0 k 1), (8, sV .i64 a n), (9, uV n), (10, uV i)]) (g := [(1, some (3, .ds (dI .i64 o)))]) (nx := 2) rfl rfl rfl ?_
 by_cases hx1 : (((i : Nat) : Int) < ((n : Nat) : Int))
 ·refine kL [.b true] (((i : Int) < (n : Int))) [(1, sV .i64 b m), (5, oV 1 0 k 1), (8, sV .i64 a n), (9, uV n), (10, uV i), (11, bV true)] [(1, some (3, .ds (dI .i64 o)))] 2 zo ?_
  refine AW.seq ?_
  refine vP ?_
  refine AW.seq ?_
  refine AW.block ?_
  refine kP [.n i, .d (D.lit (.int .i64 (List.getD a i 0))), .no] ((kO (i : Int)) ∧ (i < n) ∧ ((List.drop i (dI .i64 a))[0]? = some (D.lit (.int .i64 (List.getD a i 0))))) [(1, sV .i64 b m), (5, oV 1 0 k 1), (7, iV (List.getD a i 0)), (8, sV .i64 a n), (9, uV n), (10, uV i)] ⟨rfl, zo, (q5 _ _ _ vA)⟩ ?_
  by_cases hx3 : ((0 : Int) ≤ (qQ b (List.getD a i 0) m))
  ·have hx4 : ((((-1) : Int) ≤ (qQ b (List.getD a i 0) m)) ∧ ((qQ b (List.getD a i 0) m) < ((m : Nat) : Int))) := vC b (List.getD a i 0) m
   refine kP [.no, .no, .call [] (iV (qQ b (List.getD a i 0) m)) [] 0 [] none, .b true] ((_) ∧ (((0 : Int) ≤ (qQ b (List.getD a i 0) m)))) [(1, sV .i64 b m), (5, oV 1 0 k 1), (7, iV (List.getD a i 0)), (8, sV .i64 a n), (9, uV n), (10, uV i), (17, bV true)] ⟨(mV b m (List.getD a i 0) zo zo), zo⟩ ?_
   refine zt ?_
   refine a5 [.no, .no, .no, .ap none (k + 1) (dI .i64 (o ++ ([(List.getD a i 0)] : List Int))), .no] (([iD (List.getD a i 0)].length = 1 * 1) ∧ (((dI .i64 o) : List D).length = k * 1) ∧ ((k + 1) * 8 ≤ 140737488355328) ∧ (k + 1 = (k + 1)) ∧ (((dI .i64 o) : List D) ++ [iD (List.getD a i 0)] = (dI .i64 (o ++ ([(List.getD a i 0)] : List Int))))) [(1, sV .i64 b m), (5, oV 3 0 (k + 1) 1), (8, sV .i64 a n), (9, uV n), (10, uV i)] [(3, some (3, .ds (dI .i64 (o ++ ([(List.getD a i 0)] : List Int)))))] 4 ⟨vA, vA, zo, zo, (yF .i64 o ([(List.getD a i 0)] : List Int))⟩ ?_
   refine uS [.w, .no] ((-9223372036854775808) ≤ ((i : Int) + 1) ∧ ((i : Int) + 1) ≤ 9223372036854775807) [(1, sV .i64 b m), (5, oV 3 0 (k + 1) 1), (8, sV .i64 a n), (9, uV n), (10, iV (↑i + 1))] ⟨by omega, by omega⟩ ?_
   exact kW ⟨(((i + 1) : Nat), ((k + 1) : Nat), ((o ++ ([(List.getD a i 0)] : List Int)) : List Int)), ⟨aZ, (by first | exact hC.y zo rfl zo | exact hC.n zo zo), k0h⟩⟩ [(1, 3)] (P := (kM (dI .i64 b)) ∧ (kH m) ∧ (kH 0) ∧ (kH (k + 1)) ∧ (kM (dI .i64 a)) ∧ (kH n) ∧ (kO (n : Int)) ∧ (((((i + 1) : Nat) : Int) : Int) = ((i : Int) + 1)) ∧ (kM (dI .i64 (o ++ ([(List.getD a i 0)] : List Int))))) zk ⟨rfl, rfl, rfl, rfl, rfl, rfl, rfl, gF, rfl⟩ (show n - (i + 1) < n - i from gE)
  ·have hx5 : ((((-1) : Int) ≤ (qQ b (List.getD a i 0) m)) ∧ ((qQ b (List.getD a i 0) m) < ((m : Nat) : Int))) := vC b (List.getD a i 0) m
   refine kP [.no, .no, .call [] (iV (qQ b (List.getD a i 0) m)) [] 0 [] none, .b false] ((_) ∧ (¬ ((0 : Int) ≤ (qQ b (List.getD a i 0) m)))) [(1, sV .i64 b m), (5, oV 1 0 k 1), (7, iV (List.getD a i 0)), (8, sV .i64 a n), (9, uV n), (10, uV i), (17, bV false)] ⟨(mV b m (List.getD a i 0) zo zo), zo⟩ ?_
   refine uB ?_
   refine uS [.w, .no] ((-9223372036854775808) ≤ ((i : Int) + 1) ∧ ((i : Int) + 1) ≤ 9223372036854775807) [(1, sV .i64 b m), (5, oV 1 0 k 1), (8, sV .i64 a n), (9, uV n), (10, iV (↑i + 1))] ⟨by omega, by omega⟩ ?_
   exact kW ⟨(((i + 1) : Nat), (k : Nat), (o : List Int)), ⟨aZ, (by first | exact hC.y zo rfl zo | exact hC.n zo zo), k0h⟩⟩ [] (P := (kM (dI .i64 b)) ∧ (kH m) ∧ (kH 0) ∧ (kH k) ∧ (kM (dI .i64 a)) ∧ (kH n) ∧ (kO (n : Int)) ∧ (((((i + 1) : Nat) : Int) : Int) = ((i : Int) + 1)) ∧ (kM (dI .i64 o))) zk ⟨rfl, rfl, rfl, rfl, rfl, rfl, rfl, gF, rfl⟩ (show n - (i + 1) < n - i from gE)
 ·refine kL [.b false] (¬ ((i : Int) < (n : Int))) [(1, sV .i64 b m), (5, oV 1 0 k 1), (8, sV .i64 a n), (9, uV n), (10, uV i), (11, bV false)] [(1, some (3, .ds (dI .i64 o)))] 2 zo ?_
  refine AW.seq ?_
  refine zf ?_
  refine AW.exit ?_
  refine kL [.no, .no] True [(4, oV 1 0 k 1)] [(1, some (3, .ds (dI .i64 o)))] 2 trivial ?_
  have hz1 : o = yS a b m := hC.fin (by omega)
  have hz2 : List.length (yS a b m) = k := by rw [← hz1]; omega
  refine AW.freeze 1 (l' := [(4, sV .i64 o k)]) (g' := []) rfl (FzS.cons rfl (.e (.c (@FzC.own 1 ((dI .i64 o) : List D) 0 k 1 true ((dI .i64 o) : List D) (by rw [List.drop_zero, Nat.mul_one, List.take_of_length_le (by first | omega | (simp only [uK, iN, fS, qX, List.length_append, List.length_cons, List.length_nil, List.length_take, List.length_drop, List.length_replicate, List.length_set, List.length_map, List.length_reverse, Nat.mul_one] <;> omega))]) vA))) FzS.nil) FzG.nil ?_
  refine AW.ret ?_
  exact kD (.inr rfl) [] (P := (((dI .i64 (yS a b m)) : List D) = (dI .i64 o)) ∧ (((List.length (yS a b m)) : Nat) = k)) zk ⟨(by first | rfl | exact congrArg _ hz1.symm), (by first | omega | rfl | assumption | (simp; done) | (simp; omega))⟩
theorem f5 (a b : List Int) (n m : Nat) (hn : List.length a = n) (hm : List.length b = m) (h2 : n ≤ 1000000) (h3 : m ≤ 1000000) : Fun 116 [.c (.d (D.sl (dI .i64 a) n)), .c (.d (D.sl (dI .i64 b) m))] (kK []) 0 (sV .i64 (yS a b m) (List.length (yS a b m))) (kK []) 0 := by
 refine Fun.mk (n := 24) Tryz.func116 rfl rfl (Nat.le_of_ble_eq_true rfl) ?_
 intro cx hcx
 refine kL [.no] True [(0, sV .i64 a n), (1, sV .i64 b m)] [] 0 trivial ?_
 refine kP [.no] True [(0, sV .i64 a n), (1, sV .i64 b m), (5, nV)] trivial ?_
 refine AW.seq ?_
 refine kP [.no, .no, .no] True [(1, sV .i64 b m), (5, nV), (8, sV .i64 a n), (9, uV n), (10, iV 0)] trivial ?_
 refine AW.block ?_
 refine AW.adoptS 5 1 3 rfl ?_
 refine kZ 0 hcx (fun (x : {x : Nat × Nat × List Int // match x with | (i, k, o) => (i ≤ n ∧ k ≤ i) ∧ (CO a b m i o) ∧ (List.length o = k)}) => match x with | ⟨(i, k, o), _⟩ => (⟨[(1, sV .i64 b m), (5, oV 1 0 k 1), (8, sV .i64 a n), (9, uV n), (10, uV i)], [(1, some (3, .ds (dI .i64 o)))], 2⟩ : ES)) (fun x => match x with | ⟨(i, k, o), _⟩ => n - i) ⟨((0 : Nat), (0 : Nat), (([] : List Int) : List Int)), ⟨aZ, (CO.zero a b m), rfl⟩⟩ [(1, 0)] (P := (kM (dI .i64 b)) ∧ (kH m) ∧ (kH 0) ∧ (kH 0) ∧ (kM (dI .i64 a)) ∧ (kH n) ∧ (kO (n : Int)) ∧ (kO 0) ∧ (((dI .i64 ([] : List Int)) : List D) = ([] : List D))) zk ⟨rfl, rfl, rfl, rfl, rfl, rfl, rfl, rfl, (by first | rfl | with_reducible assumption)⟩ ?_
 rintro ⟨⟨i, k, o⟩, hinv0⟩
 obtain ⟨hi, hC, ho⟩ : (i ≤ n ∧ k ≤ i) ∧ (CO a b m i o) ∧ (List.length o = k) := hinv0
 refine qT (l := [(1, sV .i64 b m), (5, oV 1 0 k 1), (8, sV .i64 a n), (9, uV n), (10, uV i)]) (g := [(1, some (3, .ds (dI .i64 o)))]) (nx := 2) rfl rfl rfl ?_
 by_cases hx1 : (((i : Nat) : Int) < ((n : Nat) : Int))
 ·refine kL [.b true] (((i : Int) < (n : Int))) [(1, sV .i64 b m), (5, oV 1 0 k 1), (8, sV .i64 a n), (9, uV n), (10, uV i), (11, bV true)] [(1, some (3, .ds (dI .i64 o)))] 2 zo ?_
  refine AW.seq ?_
  refine vP ?_
  refine AW.seq ?_
  refine AW.block ?_
  refine kP [.n i, .d (D.lit (.int .i64 (List.getD a i 0))), .no] ((kO (i : Int)) ∧ (i < n) ∧ ((List.drop i (dI .i64 a))[0]? = some (D.lit (.int .i64 (List.getD a i 0))))) [(1, sV .i64 b m), (5, oV 1 0 k 1), (7, iV (List.getD a i 0)), (8, sV .i64 a n), (9, uV n), (10, uV i)] ⟨rfl, zo, (q5 _ _ _ vA)⟩ ?_
  by_cases hx3 : ((0 : Int) ≤ (qQ b (List.getD a i 0) m))
  ·have hx4 : ((((-1) : Int) ≤ (qQ b (List.getD a i 0) m)) ∧ ((qQ b (List.getD a i 0) m) < ((m : Nat) : Int))) := vC b (List.getD a i 0) m
   refine kP [.no, .no, .call [] (iV (qQ b (List.getD a i 0) m)) [] 0 [] none, .b true] ((_) ∧ (((0 : Int) ≤ (qQ b (List.getD a i 0) m)))) [(1, sV .i64 b m), (5, oV 1 0 k 1), (7, iV (List.getD a i 0)), (8, sV .i64 a n), (9, uV n), (10, uV i), (17, bV true)] ⟨(jH b m (List.getD a i 0) zo zo), zo⟩ ?_
   refine zt ?_
   refine a5 [.no, .no, .no, .ap none (k + 1) (dI .i64 (o ++ ([(List.getD a i 0)] : List Int))), .no] (([iD (List.getD a i 0)].length = 1 * 1) ∧ (((dI .i64 o) : List D).length = k * 1) ∧ ((k + 1) * 8 ≤ 140737488355328) ∧ (k + 1 = (k + 1)) ∧ (((dI .i64 o) : List D) ++ [iD (List.getD a i 0)] = (dI .i64 (o ++ ([(List.getD a i 0)] : List Int))))) [(1, sV .i64 b m), (5, oV 3 0 (k + 1) 1), (8, sV .i64 a n), (9, uV n), (10, uV i)] [(3, some (3, .ds (dI .i64 (o ++ ([(List.getD a i 0)] : List Int)))))] 4 ⟨vA, vA, zo, zo, (yF .i64 o ([(List.getD a i 0)] : List Int))⟩ ?_
   refine uS [.w, .no] ((-9223372036854775808) ≤ ((i : Int) + 1) ∧ ((i : Int) + 1) ≤ 9223372036854775807) [(1, sV .i64 b m), (5, oV 3 0 (k + 1) 1), (8, sV .i64 a n), (9, uV n), (10, iV (↑i + 1))] ⟨by omega, by omega⟩ ?_
   exact kW ⟨(((i + 1) : Nat), ((k + 1) : Nat), ((o ++ ([(List.getD a i 0)] : List Int)) : List Int)), ⟨aZ, (by first | exact hC.y zo rfl zo | exact hC.n zo zo), k0h⟩⟩ [(1, 3)] (P := (kM (dI .i64 b)) ∧ (kH m) ∧ (kH 0) ∧ (kH (k + 1)) ∧ (kM (dI .i64 a)) ∧ (kH n) ∧ (kO (n : Int)) ∧ (((((i + 1) : Nat) : Int) : Int) = ((i : Int) + 1)) ∧ (kM (dI .i64 (o ++ ([(List.getD a i 0)] : List Int))))) zk ⟨rfl, rfl, rfl, rfl, rfl, rfl, rfl, gF, rfl⟩ (show n - (i + 1) < n - i from gE)
  ·have hx5 : ((((-1) : Int) ≤ (qQ b (List.getD a i 0) m)) ∧ ((qQ b (List.getD a i 0) m) < ((m : Nat) : Int))) := vC b (List.getD a i 0) m
   refine kP [.no, .no, .call [] (iV (qQ b (List.getD a i 0) m)) [] 0 [] none, .b false] ((_) ∧ (¬ ((0 : Int) ≤ (qQ b (List.getD a i 0) m)))) [(1, sV .i64 b m), (5, oV 1 0 k 1), (7, iV (List.getD a i 0)), (8, sV .i64 a n), (9, uV n), (10, uV i), (17, bV false)] ⟨(jH b m (List.getD a i 0) zo zo), zo⟩ ?_
   refine uB ?_
   refine uS [.w, .no] ((-9223372036854775808) ≤ ((i : Int) + 1) ∧ ((i : Int) + 1) ≤ 9223372036854775807) [(1, sV .i64 b m), (5, oV 1 0 k 1), (8, sV .i64 a n), (9, uV n), (10, iV (↑i + 1))] ⟨by omega, by omega⟩ ?_
   exact kW ⟨(((i + 1) : Nat), (k : Nat), (o : List Int)), ⟨aZ, (by first | exact hC.y zo rfl zo | exact hC.n zo zo), k0h⟩⟩ [] (P := (kM (dI .i64 b)) ∧ (kH m) ∧ (kH 0) ∧ (kH k) ∧ (kM (dI .i64 a)) ∧ (kH n) ∧ (kO (n : Int)) ∧ (((((i + 1) : Nat) : Int) : Int) = ((i : Int) + 1)) ∧ (kM (dI .i64 o))) zk ⟨rfl, rfl, rfl, rfl, rfl, rfl, rfl, gF, rfl⟩ (show n - (i + 1) < n - i from gE)
 ·refine kL [.b false] (¬ ((i : Int) < (n : Int))) [(1, sV .i64 b m), (5, oV 1 0 k 1), (8, sV .i64 a n), (9, uV n), (10, uV i), (11, bV false)] [(1, some (3, .ds (dI .i64 o)))] 2 zo ?_
  refine AW.seq ?_
  refine zf ?_
  refine AW.exit ?_
  refine kL [.no, .no] True [(4, oV 1 0 k 1)] [(1, some (3, .ds (dI .i64 o)))] 2 trivial ?_
  have hz1 : o = yS a b m := hC.fin (by omega)
  have hz2 : List.length (yS a b m) = k := by rw [← hz1]; omega
  refine AW.freeze 1 (l' := [(4, sV .i64 o k)]) (g' := []) rfl (FzS.cons rfl (.e (.c (@FzC.own 1 ((dI .i64 o) : List D) 0 k 1 true ((dI .i64 o) : List D) (by rw [List.drop_zero, Nat.mul_one, List.take_of_length_le (by first | omega | (simp only [uK, iN, fS, qX, List.length_append, List.length_cons, List.length_nil, List.length_take, List.length_drop, List.length_replicate, List.length_set, List.length_map, List.length_reverse, Nat.mul_one] <;> omega))]) vA))) FzS.nil) FzG.nil ?_
  refine AW.ret ?_
  exact kD (.inr rfl) [] (P := (((dI .i64 (yS a b m)) : List D) = (dI .i64 o)) ∧ (((List.length (yS a b m)) : Nat) = k)) zk ⟨(by first | rfl | exact congrArg _ hz1.symm), (by first | omega | rfl | assumption | (simp; done) | (simp; omega))⟩
theorem xI (a b : List Int) (n m : Nat) (hn : List.length a = n) (hm : List.length b = m) (h2 : n ≤ 1000000) (h3 : m ≤ 1000000) : Fun 142 [.c (.d (D.sl (dI .i64 a) n)), .c (.d (D.sl (dI .i64 b) m))] (kK []) 0 (qY (D.lit (.bool (vQ a b)))) (kK []) 0 := by
 refine Fun.mk (n := 26) Tryz.func142 rfl rfl (Nat.le_of_ble_eq_true rfl) ?_
 intro cx hcx
 refine kL [.no] True [(0, sV .i64 a n), (1, sV .i64 b m)] [] 0 trivial ?_
 refine AW.seq ?_
 by_cases hx1 : (((n : Nat) : Int) ≠ ((m : Nat) : Int))
 ·refine kP (qA 4 [.b true]) (((n : Int) ≠ (m : Int))) [(0, sV .i64 a n), (1, sV .i64 b m), (10, bV true)] zo ?_
  refine zt ?_
  refine kP [.no] True [(4, bV false)] trivial ?_
  refine AW.ret ?_
  exact kD (.inr rfl) [] (P := ((vQ a b) = false)) zk (by first | exact o4 zo | exact o3 (k := k) zo | exact o2 zo (fun j hj => ha j zo))
 ·refine kP (qA 4 [.b false]) (¬ ((n : Int) ≠ (m : Int))) [(0, sV .i64 a n), (1, sV .i64 b m), (10, bV false)] zo ?_
  refine uB ?_
  refine AW.seq ?_
  refine kP [.no, .no, .no] True [(0, sV .i64 a n), (1, sV .i64 b m), (12, uV n), (13, iV 0)] trivial ?_
  refine AW.block ?_
  refine kZ 0 hcx (fun (x : {x : Nat // match x with | k => (k ≤ n) ∧ (∀ j, j < k → List.getD a j 0 = List.getD b j 0)}) => match x with | ⟨k, _⟩ => (⟨[(0, sV .i64 a n), (1, sV .i64 b m), (12, uV n), (13, uV k)], [], 0⟩ : ES)) (fun x => match x with | ⟨k, _⟩ => n - k) ⟨(0 : Nat), ⟨aZ, (fun j hj => absurd hj (Nat.not_lt_zero j))⟩⟩ [] (P := (kM (dI .i64 a)) ∧ (kH n) ∧ (kM (dI .i64 b)) ∧ (kH m) ∧ (kO (n : Int)) ∧ (kO 0)) zk ⟨rfl, rfl, rfl, rfl, rfl, rfl⟩ ?_
  rintro ⟨k, hinv0⟩
  obtain ⟨hk, ha⟩ : (k ≤ n) ∧ (∀ j, j < k → List.getD a j 0 = List.getD b j 0) := hinv0
  refine qT (l := [(0, sV .i64 a n), (1, sV .i64 b m), (12, uV n), (13, uV k)]) (g := []) (nx := 0) rfl rfl rfl ?_
  by_cases hx2 : (((k : Nat) : Int) < ((n : Nat) : Int))
  ·refine kL [.b true] (((k : Int) < (n : Int))) [(0, sV .i64 a n), (1, sV .i64 b m), (12, uV n), (13, uV k), (14, bV true)] [] 0 zo ?_
   refine AW.seq ?_
   refine vP ?_
   refine AW.seq ?_
   refine AW.block ?_
   refine kP [.no, .no] True [(0, sV .i64 a n), (1, sV .i64 b m), (5, uV k), (12, uV n), (13, uV k)] trivial ?_
   by_cases hx3 : ((List.getD a k 0) ≠ (List.getD b k 0))
   ·refine kP [.no, .no, .n k, .d (D.lit (.int .i64 (List.getD a k 0))), .no, .no, .n k, .d (D.lit (.int .i64 (List.getD b k 0))), .b true] ((kO (k : Int)) ∧ (k < n) ∧ ((List.drop k (dI .i64 a))[0]? = some (D.lit (.int .i64 (List.getD a k 0)))) ∧ (kO (k : Int)) ∧ (k < m) ∧ ((List.drop k (dI .i64 b))[0]? = some (D.lit (.int .i64 (List.getD b k 0)))) ∧ (((List.getD a k 0) ≠ (List.getD b k 0)))) [(0, sV .i64 a n), (1, sV .i64 b m), (12, uV n), (13, uV k), (24, bV true)] ⟨rfl, zo, (q5 _ _ _ vA), rfl, zo, (q5 _ _ _ vA), zo⟩ ?_
    refine zt ?_
    refine kP [.no] True [(4, bV false)] trivial ?_
    refine AW.ret ?_
    exact kD (.inr rfl) [] (P := ((vQ a b) = false)) zk (by first | exact o4 zo | exact o3 (k := k) zo | exact o2 zo (fun j hj => ha j zo))
   ·refine kP [.no, .no, .n k, .d (D.lit (.int .i64 (List.getD a k 0))), .no, .no, .n k, .d (D.lit (.int .i64 (List.getD b k 0))), .b false] ((kO (k : Int)) ∧ (k < n) ∧ ((List.drop k (dI .i64 a))[0]? = some (D.lit (.int .i64 (List.getD a k 0)))) ∧ (kO (k : Int)) ∧ (k < m) ∧ ((List.drop k (dI .i64 b))[0]? = some (D.lit (.int .i64 (List.getD b k 0)))) ∧ (¬ ((List.getD a k 0) ≠ (List.getD b k 0)))) [(0, sV .i64 a n), (1, sV .i64 b m), (12, uV n), (13, uV k), (24, bV false)] ⟨rfl, zo, (q5 _ _ _ vA), rfl, zo, (q5 _ _ _ vA), zo⟩ ?_
    refine uB ?_
    refine uS [.w, .no] ((-9223372036854775808) ≤ ((k : Int) + 1) ∧ ((k : Int) + 1) ≤ 9223372036854775807) [(0, sV .i64 a n), (1, sV .i64 b m), (12, uV n), (13, iV (↑k + 1))] ⟨by omega, by omega⟩ ?_
    exact kW ⟨((k + 1) : Nat), ⟨aZ, (fun j hj => (Nat.lt_succ_iff_lt_or_eq.1 hj).elim (ha j) (fun e9 => by subst e9; omega))⟩⟩ [] (P := (kM (dI .i64 a)) ∧ (kH n) ∧ (kM (dI .i64 b)) ∧ (kH m) ∧ (kO (n : Int)) ∧ (((((k + 1) : Nat) : Int) : Int) = ((k : Int) + 1))) zk ⟨rfl, rfl, rfl, rfl, rfl, gF⟩ (show n - (k + 1) < n - k from gE)
  ·refine kL [.b false] (¬ ((k : Int) < (n : Int))) [(0, sV .i64 a n), (1, sV .i64 b m), (12, uV n), (13, uV k), (14, bV false)] [] 0 zo ?_
   refine AW.seq ?_
   refine zf ?_
   refine AW.exit ?_
   refine kL [.no] True [(4, bV true)] [] 0 trivial ?_
   refine AW.ret ?_
   exact kD (.inr rfl) [] (P := ((vQ a b) = true)) zk (by first | exact o4 zo | exact o3 (k := k) zo | exact o2 zo (fun j hj => ha j zo))
theorem aF (a b : List Int) (n m : Nat) (hn : List.length a = n) (hm : List.length b = m) (h2 : n ≤ 1000000) (h3 : m ≤ 1000000) : Fun 94 [.c (.d (D.sl (dI .i64 a) n)), .c (.d (D.sl (dI .i64 b) m))] (kK []) 0 (qY (D.lit (.bool (vQ a b)))) (kK []) 0 := by
 refine Fun.mk (n := 26) Tryz.func94 rfl rfl (Nat.le_of_ble_eq_true rfl) ?_
 intro cx hcx
 refine kL [.no] True [(0, sV .i64 a n), (1, sV .i64 b m)] [] 0 trivial ?_
 refine AW.seq ?_
 by_cases hx1 : (((n : Nat) : Int) ≠ ((m : Nat) : Int))
 ·refine kP (qA 4 [.b true]) (((n : Int) ≠ (m : Int))) [(0, sV .i64 a n), (1, sV .i64 b m), (10, bV true)] zo ?_
  refine zt ?_
  refine kP [.no] True [(4, bV false)] trivial ?_
  refine AW.ret ?_
  exact kD (.inr rfl) [] (P := ((vQ a b) = false)) zk (by first | exact o4 zo | exact o3 (k := k) zo | exact o2 zo (fun j hj => ha j zo))
 ·refine kP (qA 4 [.b false]) (¬ ((n : Int) ≠ (m : Int))) [(0, sV .i64 a n), (1, sV .i64 b m), (10, bV false)] zo ?_
  refine uB ?_
  refine AW.seq ?_
  refine kP [.no, .no, .no] True [(0, sV .i64 a n), (1, sV .i64 b m), (12, uV n), (13, iV 0)] trivial ?_
  refine AW.block ?_
  refine kZ 0 hcx (fun (x : {x : Nat // match x with | k => (k ≤ n) ∧ (∀ j, j < k → List.getD a j 0 = List.getD b j 0)}) => match x with | ⟨k, _⟩ => (⟨[(0, sV .i64 a n), (1, sV .i64 b m), (12, uV n), (13, uV k)], [], 0⟩ : ES)) (fun x => match x with | ⟨k, _⟩ => n - k) ⟨(0 : Nat), ⟨aZ, (fun j hj => absurd hj (Nat.not_lt_zero j))⟩⟩ [] (P := (kM (dI .i64 a)) ∧ (kH n) ∧ (kM (dI .i64 b)) ∧ (kH m) ∧ (kO (n : Int)) ∧ (kO 0)) zk ⟨rfl, rfl, rfl, rfl, rfl, rfl⟩ ?_
  rintro ⟨k, hinv0⟩
  obtain ⟨hk, ha⟩ : (k ≤ n) ∧ (∀ j, j < k → List.getD a j 0 = List.getD b j 0) := hinv0
  refine qT (l := [(0, sV .i64 a n), (1, sV .i64 b m), (12, uV n), (13, uV k)]) (g := []) (nx := 0) rfl rfl rfl ?_
  by_cases hx2 : (((k : Nat) : Int) < ((n : Nat) : Int))
  ·refine kL [.b true] (((k : Int) < (n : Int))) [(0, sV .i64 a n), (1, sV .i64 b m), (12, uV n), (13, uV k), (14, bV true)] [] 0 zo ?_
   refine AW.seq ?_
   refine vP ?_
   refine AW.seq ?_
   refine AW.block ?_
   refine kP [.no, .no] True [(0, sV .i64 a n), (1, sV .i64 b m), (5, uV k), (12, uV n), (13, uV k)] trivial ?_
   by_cases hx3 : ((List.getD a k 0) ≠ (List.getD b k 0))
   ·refine kP [.no, .no, .n k, .d (D.lit (.int .i64 (List.getD a k 0))), .no, .no, .n k, .d (D.lit (.int .i64 (List.getD b k 0))), .b true] ((kO (k : Int)) ∧ (k < n) ∧ ((List.drop k (dI .i64 a))[0]? = some (D.lit (.int .i64 (List.getD a k 0)))) ∧ (kO (k : Int)) ∧ (k < m) ∧ ((List.drop k (dI .i64 b))[0]? = some (D.lit (.int .i64 (List.getD b k 0)))) ∧ (((List.getD a k 0) ≠ (List.getD b k 0)))) [(0, sV .i64 a n), (1, sV .i64 b m), (12, uV n), (13, uV k), (24, bV true)] ⟨rfl, zo, (q5 _ _ _ vA), rfl, zo, (q5 _ _ _ vA), zo⟩ ?_
    refine zt ?_
    refine kP [.no] True [(4, bV false)] trivial ?_
    refine AW.ret ?_
    exact kD (.inr rfl) [] (P := ((vQ a b) = false)) zk (by first | exact o4 zo | exact o3 (k := k) zo | exact o2 zo (fun j hj => ha j zo))
   ·refine kP [.no, .no, .n k, .d (D.lit (.int .i64 (List.getD a k 0))), .no, .no, .n k, .d (D.lit (.int .i64 (List.getD b k 0))), .b false] ((kO (k : Int)) ∧ (k < n) ∧ ((List.drop k (dI .i64 a))[0]? = some (D.lit (.int .i64 (List.getD a k 0)))) ∧ (kO (k : Int)) ∧ (k < m) ∧ ((List.drop k (dI .i64 b))[0]? = some (D.lit (.int .i64 (List.getD b k 0)))) ∧ (¬ ((List.getD a k 0) ≠ (List.getD b k 0)))) [(0, sV .i64 a n), (1, sV .i64 b m), (12, uV n), (13, uV k), (24, bV false)] ⟨rfl, zo, (q5 _ _ _ vA), rfl, zo, (q5 _ _ _ vA), zo⟩ ?_
    refine uB ?_
    refine uS [.w, .no] ((-9223372036854775808) ≤ ((k : Int) + 1) ∧ ((k : Int) + 1) ≤ 9223372036854775807) [(0, sV .i64 a n), (1, sV .i64 b m), (12, uV n), (13, iV (↑k + 1))] ⟨by omega, by omega⟩ ?_
    exact kW ⟨((k + 1) : Nat), ⟨aZ, (fun j hj => (Nat.lt_succ_iff_lt_or_eq.1 hj).elim (ha j) (fun e9 => by subst e9; omega))⟩⟩ [] (P := (kM (dI .i64 a)) ∧ (kH n) ∧ (kM (dI .i64 b)) ∧ (kH m) ∧ (kO (n : Int)) ∧ (((((k + 1) : Nat) : Int) : Int) = ((k : Int) + 1))) zk ⟨rfl, rfl, rfl, rfl, rfl, gF⟩ (show n - (k + 1) < n - k from gE)
  ·refine kL [.b false] (¬ ((k : Int) < (n : Int))) [(0, sV .i64 a n), (1, sV .i64 b m), (12, uV n), (13, uV k), (14, bV false)] [] 0 zo ?_
   refine AW.seq ?_
   refine zf ?_
   refine AW.exit ?_
   refine kL [.no] True [(4, bV true)] [] 0 trivial ?_
   refine AW.ret ?_
   exact kD (.inr rfl) [] (P := ((vQ a b) = true)) zk (by first | exact o4 zo | exact o3 (k := k) zo | exact o2 zo (fun j hj => ha j zo))
theorem k0e (a b : List Int) (n m : Nat) (hn : List.length a = n) (hm : List.length b = m) (h2 : n ≤ 1000000) (h3 : m ≤ 1000000) : Fun 112 [.c (.d (D.sl (dI .i64 a) n)), .c (.d (D.sl (dI .i64 b) m))] (kK []) 0 (qY (D.lit (.bool (vQ a b)))) (kK []) 0 := by
 refine Fun.mk (n := 8) Tryz.func112 rfl rfl (Nat.le_of_ble_eq_true rfl) ?_
 intro cx hcx
 refine kL [.no] True [(0, sV .i64 a n), (1, sV .i64 b m)] [] 0 trivial ?_
 rcases Bool.eq_false_or_eq_true (vQ a b) with hx1 | hx1
 ·refine kP [.no, .no, .call [] (bV true) [] 0 [] none, .no] (Fun 142 [.c (.d (dl a n)), .c (.d (dl b m))] (kK []) 0 (bV true) (kK []) 0) [(4, bV true)] (by have h0 := (xI a b n m zo zo zo zo); rw [hx1] at h0; exact h0) ?_
  refine AW.ret ?_
  exact kD (.inr rfl) [] (P := ((vQ a b) = true)) zk tN
 ·refine kP [.no, .no, .call [] (bV false) [] 0 [] none, .no] (Fun 142 [.c (.d (dl a n)), .c (.d (dl b m))] (kK []) 0 (bV false) (kK []) 0) [(4, bV false)] (by have h0 := (xI a b n m zo zo zo zo); rw [hx1] at h0; exact h0) ?_
  refine AW.ret ?_
  exact kD (.inr rfl) [] (P := ((vQ a b) = false)) zk tN
end Go.Proofs.YtcfmjpnffembpaaGreat
