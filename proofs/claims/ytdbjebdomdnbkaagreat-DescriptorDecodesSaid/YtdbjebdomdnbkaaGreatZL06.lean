/- Merged texts. -/
import Derived.Test.YtdbjebdomdnbkaaGreatZW06
namespace Go.Proofs.YtdbjebdomdnbkaaGreat
open Go.ChangeShapes Go.WideShapes Go.ChangeAt Go.RowKit
set_option linter.unusedVariables false
set_option linter.unusedSimpArgs false
/-! sorted lists -/
def stL (l : List Int) : List Int := l.mergeSort fun x y => decide (x ≤ y)
theorem jR (l : List Int) : (stL l).Perm l := List.mergeSort_perm _ _
theorem k7f (l : List Int) : (stL l).length = l.length := (jR l).length_eq
theorem k2d (l : List Int) : (stL l).Pairwise (· ≤ ·) := by
  have h := List.pairwise_mergeSort (le := fun (x y : Int) => decide (x ≤ y)) (fun a b c h1 h2 => decide_eq_true (by have := of_decide_eq_true h1; have := of_decide_eq_true h2; omega)) (fun a b => by
    rw [Bool.or_eq_true]
    rcases Int.le_total a b with h | h
    · exact .inl (decide_eq_true h)
    · exact .inr (decide_eq_true h)) l
  exact h.imp fun h => of_decide_eq_true h
theorem k0u {a b : List Int} (h : a.Perm b) (ha : a.Pairwise (· ≤ ·)) (hb : b.Pairwise (· ≤ ·)) : a = b :=
  List.Perm.eq_of_pairwise (le := (· ≤ ·)) (fun x y _ _ h1 h2 => by omega) ha hb h
theorem k7e : stL [] = [] := by unfold stL; exact List.mergeSort_nil
def SO (m : List Int) (i : Nat) (out : List Int) : Prop := out = stL (List.take i m)
theorem SO.zero (m : List Int) : SO m 0 [] := k7e.symm
theorem SO.len {m out : List Int} {i : Nat} (h : SO m i out) (hi : i ≤ m.length) : out.length = i := by
  unfold SO at h; rw [h, k7f, List.length_take]; omega
theorem SO.fin {m out : List Int} {i : Nat} (h : SO m i out) (hi : m.length ≤ i) : out = stL m := by
  unfold SO at h; rw [List.take_of_length_le hi] at h; exact h
theorem k8h {l : List Int} (h : l.Pairwise (· ≤ ·)) {i j : Nat} (hij : i ≤ j) (hj : j < l.length) : List.getD l i 0 ≤ List.getD l j 0 := by
  rcases Nat.lt_or_ge i j with h1 | h1
  · rw [List.getD_eq_getElem?_getD, List.getElem?_eq_getElem (by omega), List.getD_eq_getElem?_getD, List.getElem?_eq_getElem hj]
    exact List.pairwise_iff_getElem.1 h i j (by omega) hj h1
  · rw [show i = j by omega]; exact Int.le_refl _
theorem sS {l : List Int} {k : Nat} {x : Int} (h : x ∈ List.take k l) : ∃ j, j < k ∧ j < l.length ∧ List.getD l j 0 = x := by
  obtain ⟨j, hj, e⟩ := o6.1 h
  rw [List.length_take] at hj
  exact ⟨j, by omega, by omega, by rw [← e, k19 (by omega)]⟩
theorem iL {l : List Int} {k : Nat} {x : Int} (h : x ∈ List.drop k l) : ∃ j, k ≤ j ∧ j < l.length ∧ List.getD l j 0 = x := by
  obtain ⟨j, hj, e⟩ := o6.1 h
  rw [List.length_drop] at hj
  exact ⟨k + j, by omega, by omega, by rw [← e, k1a]⟩
theorem xK {out : List Int} {k : Nat} {p : Int} (h : out.Pairwise (· ≤ ·)) (hk : k ≤ out.length) (h1 : ∀ j, k ≤ j → j < out.length → p < List.getD out j 0) (h2 : k = 0 ∨ List.getD out (k - 1) 0 ≤ p) : (List.take k out ++ [p] ++ List.drop k out).Pairwise (· ≤ ·) := by
  rw [List.append_assoc, List.pairwise_append]
  refine ⟨h.sublist (List.take_sublist _ _), ?_, ?_⟩
  · show (p :: List.drop k out).Pairwise _
    refine List.Pairwise.cons (fun x hx => ?_) (h.sublist (List.drop_sublist _ _))
    obtain ⟨j, j1, j2, rfl⟩ := iL hx
    have := h1 j j1 j2; omega
  · intro x hx y hy
    obtain ⟨j, j1, j2, rfl⟩ := sS hx
    have h3 : List.getD out j 0 ≤ p := by
      rcases h2 with h2 | h2
      · omega
      · have := k8h h (show j ≤ k - 1 by omega) (show k - 1 < out.length by omega); omega
    rcases List.mem_cons.1 (show y ∈ p :: List.drop k out from hy) with rfl | hy
    · exact h3
    · obtain ⟨q, q1, q2, rfl⟩ := iL hy
      have := h1 q q1 q2; omega
theorem k43 (out : List Int) (k : Nat) (p : Int) : (List.take k out ++ [p] ++ List.drop k out).Perm (out ++ [p]) := by
  rw [List.append_assoc]
  refine (List.Perm.append_left _ List.perm_append_comm).trans ?_
  rw [← List.append_assoc, List.take_append_drop]
theorem SO.step {m out q : List Int} {i k : Nat} {p : Int} (h : SO m i out) (hi : i < m.length) (hp : p = List.getD m i 0) (hk : k ≤ out.length) (h1 : ∀ j, k ≤ j → j < out.length → p < List.getD out j 0) (h2 : k = 0 ∨ List.getD out (k - 1) 0 ≤ p) (hq : q = List.take k out ++ [p] ++ List.drop k out) : SO m (i + 1) q := by
  unfold SO at *
  have hs : out.Pairwise (· ≤ ·) := by rw [h]; exact k2d _
  rw [hq]
  refine k0u ?_ (xK hs hk h1 h2) (k2d _)
  refine (k43 out k p).trans ?_
  rw [cJ hi, ← hp]
  refine List.Perm.trans ?_ (jR _).symm
  rw [h]
  exact (jR _).append_right _
/-! what two lists have in common -/
def coL (a b : List Int) (n : Nat) : List Int := a.filter fun x => decide (0 ≤ uJ b x n)
theorem k97 (a b : List Int) (n : Nat) : (coL a b n).length ≤ a.length := List.length_filter_le _ _
def CO (a b : List Int) (n i : Nat) (out : List Int) : Prop := out = coL (List.take i a) b n
theorem CO.zero (a b : List Int) (n : Nat) : CO a b n 0 [] := rfl
theorem CO.y {a b out : List Int} {n i : Nat} {x : Int} (h : CO a b n i out) (hi : i < a.length) (hx : x = List.getD a i 0) (h1 : 0 ≤ uJ b (List.getD a i 0) n) : CO a b n (i + 1) (out ++ [x]) := by
  unfold CO coL at *
  rw [cJ hi, List.filter_append, ← h, hx]
  congr 1
  rw [List.filter_cons_of_pos (p := fun x => decide (0 ≤ uJ b x n)) (a := List.getD a i 0) (decide_eq_true h1)]; rfl
theorem CO.n {a b out : List Int} {n i : Nat} (h : CO a b n i out) (hi : i < a.length) (h1 : ¬ 0 ≤ uJ b (List.getD a i 0) n) : CO a b n (i + 1) out := by
  unfold CO coL at *
  rw [cJ hi, List.filter_append, ← h]
  have : List.filter (fun x => decide (0 ≤ uJ b x n)) [List.getD a i 0] = [] := by
    rw [List.filter_cons_of_neg (by rw [decide_eq_true_iff]; exact h1)]; rfl
  rw [this, List.append_nil]
theorem CO.fin {a b out : List Int} {n i : Nat} (h : CO a b n i out) (hi : a.length ≤ i) : out = coL a b n := by
  unfold CO at h; rw [List.take_of_length_le hi] at h; exact h
theorem CO.len {a b out : List Int} {n i : Nat} (h : CO a b n i out) (hi : i ≤ a.length) : out.length ≤ i := by
  unfold CO at h; rw [h]
  have := k97 (List.take i a) b n
  rw [List.length_take] at this; omega
/-! the same -/
def cS (a b : List Int) : Bool := decide (a = b)
theorem u1v {a b : List Int} (h : a = b) : cS a b = true := decide_eq_true h
theorem k2f {a b : List Int} (h : ¬ a = b) : cS a b = false := decide_eq_false h
theorem k2g {a b : List Int} (h : cS a b = true) : a = b := of_decide_eq_true h
theorem k2e {a b : List Int} (h : cS a b = false) : ¬ a = b := of_decide_eq_false h
theorem u08 {a b : List Int} (h : a.length = b.length) (h2 : ∀ j, j < a.length → List.getD a j 0 = List.getD b j 0) : cS a b = true := by
  refine u1v (List.ext_getElem h fun i h1 h3 => ?_)
  have := h2 i h1
  rw [List.getD_eq_getElem?_getD, List.getElem?_eq_getElem h1, List.getD_eq_getElem?_getD, List.getElem?_eq_getElem h3] at this
  exact this
theorem u0a {a b : List Int} (h : ¬ a.length = b.length) : cS a b = false := k2f fun e => h (by rw [e])
theorem u09 {a b : List Int} {k : Nat} (h : ¬ List.getD a k 0 = List.getD b k 0) : cS a b = false := k2f fun e => h (by rw [e])
end Go.Proofs.YtdbjebdomdnbkaaGreat
namespace Go.Proofs.YtdbjebdomdnbkaaGreat
open Go.ChangeShapes Go.WideShapes Go.ChangeAt Go.RowKit
set_option linter.unusedVariables false
set_option linter.unusedSimpArgs false
set_option maxHeartbeats 4000000
set_option maxRecDepth 100000
theorem k6n (l : List Int) (n : Nat) (v : Int) (hn : List.length l = n) (hm : n ≤ 1000000) : Fun 107 [.c (.d (D.sl (dI .i64 l) n)), iE v] (kD []) 0 (iV (uJ l v n)) (kD []) 0 := by
 refine Fun.mk (n := 19) Tryz.func107 rfl rfl (Nat.le_of_ble_eq_true rfl) ?_
 intro cx hcx
 refine kG [.no] True [(0, sV .i64 l n), (1, iV v)] [] 0 trivial ?_
 refine AW.seq ?_
 refine kV [.no, .no, .no] True [(0, sV .i64 l n), (1, iV v), (7, uV n), (8, iV 0)] trivial ?_
 refine AW.block ?_
 refine kU 0 hcx (fun (x : {x : Nat // match x with | k => (k ≤ n) ∧ (uJ l v k = -1)}) => match x with | ⟨k, _⟩ => (⟨[(0, sV .i64 l n), (1, iV v), (7, uV n), (8, uV k)], [], 0⟩ : ES)) (fun x => match x with | ⟨k, _⟩ => n - k) ⟨(0 : Nat), ⟨zo, rfl⟩⟩ [] (P := (kY (dI .i64 l)) ∧ (kQ n) ∧ (kM v) ∧ (kM (n : Int)) ∧ (kM 0)) zk ⟨rfl, rfl, rfl, rfl, rfl⟩ ?_
 rintro ⟨k, hinv0⟩
 obtain ⟨hk, hi⟩ : (k ≤ n) ∧ (uJ l v k = -1) := hinv0
 refine qV (l := [(0, sV .i64 l n), (1, iV v), (7, uV n), (8, uV k)]) (g := []) (nx := 0) rfl rfl rfl ?_
 by_cases hx1 : (((k : Nat) : Int) < ((n : Nat) : Int))
 ·refine kG [.b true] (((k : Int) < (n : Int))) [(0, sV .i64 l n), (1, iV v), (7, uV n), (8, uV k), (9, bV true)] [] 0 zo ?_
  refine AW.seq ?_
  refine u1 ?_
  refine AW.seq ?_
  refine AW.block ?_
  refine kV [.no, .no] True [(0, sV .i64 l n), (1, iV v), (5, uV k), (7, uV n), (8, uV k)] trivial ?_
  by_cases hx2 : (v = (List.getD l k 0))
  ·refine kV [.no, .no, .no, .n k, .d (D.lit (.int .i64 (List.getD l k 0))), .b true] ((kM (k : Int)) ∧ (k < n) ∧ ((List.drop k (dI .i64 l))[0]? = some (D.lit (.int .i64 (List.getD l k 0)))) ∧ ((v = (List.getD l k 0)))) [(0, sV .i64 l n), (1, iV v), (5, uV k), (7, uV n), (8, uV k), (16, bV true)] ⟨rfl, zo, (qN _ _ _ zo), zo⟩ ?_
   refine zt ?_
   refine kV [.no, .no] True [(4, uV k)] trivial ?_
   refine AW.ret ?_
   exact kB (.inr rfl) [] (P := (((uJ l v n) : Int) = (k : Int))) zk (by exact fR hi zo n zo)
  ·refine kV [.no, .no, .no, .n k, .d (D.lit (.int .i64 (List.getD l k 0))), .b false] ((kM (k : Int)) ∧ (k < n) ∧ ((List.drop k (dI .i64 l))[0]? = some (D.lit (.int .i64 (List.getD l k 0)))) ∧ (¬ (v = (List.getD l k 0)))) [(0, sV .i64 l n), (1, iV v), (5, uV k), (7, uV n), (8, uV k), (16, bV false)] ⟨rfl, zo, (qN _ _ _ zo), zo⟩ ?_
   refine uM ?_
   refine uG [.w, .no] (qB ((k : Int) + 1)) [(0, sV .i64 l n), (1, iV v), (7, uV n), (8, iV (↑k + 1))] ⟨by omega, by omega⟩ ?_
   exact qH ⟨((k + 1) : Nat), ⟨zo, (hU hi zo)⟩⟩ [] (P := (kY (dI .i64 l)) ∧ (kQ n) ∧ (kM v) ∧ (kM (n : Int)) ∧ (((((k + 1) : Nat) : Int) : Int) = ((k : Int) + 1))) zk ⟨rfl, rfl, rfl, rfl, (by rfl)⟩ (show n - (k + 1) < n - k from zo)
 ·refine kG [.b false] (¬ ((k : Int) < (n : Int))) [(0, sV .i64 l n), (1, iV v), (7, uV n), (8, uV k), (9, bV false)] [] 0 zo ?_
  refine AW.seq ?_
  refine zf ?_
  refine AW.exit ?_
  refine kG [.no] True [(4, iV (-1))] [] 0 trivial ?_
  refine AW.ret ?_
  exact kB (.inr rfl) [] (P := (((uJ l v n) : Int) = (-1))) zk (by (rw [show n = k by omega]; exact hi))
theorem t3 (l : List Int) (n : Nat) (v : Int) (hn : List.length l = n) (hm : n ≤ 1000000) : Fun 98 [.c (.d (D.sl (dI .i64 l) n)), iE v] (kD []) 0 (iV (uJ l v n)) (kD []) 0 := by
 refine Fun.mk (n := 19) Tryz.func98 rfl rfl (Nat.le_of_ble_eq_true rfl) ?_
 intro cx hcx
 refine kG [.no] True [(0, sV .i64 l n), (1, iV v)] [] 0 trivial ?_
 refine AW.seq ?_
 refine kV [.no, .no, .no] True [(1, iV v), (7, sV .i64 l n), (8, uV n), (9, iV 0)] trivial ?_
 refine AW.block ?_
 refine kU 0 hcx (fun (x : {x : Nat // match x with | k => (k ≤ n) ∧ (uJ l v k = -1)}) => match x with | ⟨k, _⟩ => (⟨[(1, iV v), (7, sV .i64 l n), (8, uV n), (9, uV k)], [], 0⟩ : ES)) (fun x => match x with | ⟨k, _⟩ => n - k) ⟨(0 : Nat), ⟨zo, rfl⟩⟩ [] (P := (kM v) ∧ (kY (dI .i64 l)) ∧ (kQ n) ∧ (kM (n : Int)) ∧ (kM 0)) zk ⟨rfl, rfl, rfl, rfl, rfl⟩ ?_
 rintro ⟨k, hinv0⟩
 obtain ⟨hk, hi⟩ : (k ≤ n) ∧ (uJ l v k = -1) := hinv0
 refine qV (l := [(1, iV v), (7, sV .i64 l n), (8, uV n), (9, uV k)]) (g := []) (nx := 0) rfl rfl rfl ?_
 by_cases hx1 : (((k : Nat) : Int) < ((n : Nat) : Int))
 ·refine kG [.b true] (((k : Int) < (n : Int))) [(1, iV v), (7, sV .i64 l n), (8, uV n), (9, uV k), (10, bV true)] [] 0 zo ?_
  refine AW.seq ?_
  refine u1 ?_
  refine AW.seq ?_
  refine AW.block ?_
  refine kV [.no, .n k, .d (D.lit (.int .i64 (List.getD l k 0))), .no, .no] ((kM (k : Int)) ∧ (k < n) ∧ ((List.drop k (dI .i64 l))[0]? = some (D.lit (.int .i64 (List.getD l k 0))))) [(1, iV v), (5, uV k), (6, iV (List.getD l k 0)), (7, sV .i64 l n), (8, uV n), (9, uV k)] ⟨rfl, zo, (qN _ _ _ zo)⟩ ?_
  by_cases hx2 : ((List.getD l k 0) = v)
  ·refine kV [.no, .no, .b true] (((List.getD l k 0) = v)) [(1, iV v), (5, uV k), (7, sV .i64 l n), (8, uV n), (9, uV k), (16, bV true)] zo ?_
   refine zt ?_
   refine kV [.no, .no] True [(4, uV k)] trivial ?_
   refine AW.ret ?_
   exact kB (.inr rfl) [] (P := (((uJ l v n) : Int) = (k : Int))) zk (by exact fR hi zo n zo)
  ·refine kV [.no, .no, .b false] (¬ ((List.getD l k 0) = v)) [(1, iV v), (5, uV k), (7, sV .i64 l n), (8, uV n), (9, uV k), (16, bV false)] zo ?_
   refine uM ?_
   refine uG [.w, .no] (qB ((k : Int) + 1)) [(1, iV v), (7, sV .i64 l n), (8, uV n), (9, iV (↑k + 1))] ⟨by omega, by omega⟩ ?_
   exact qH ⟨((k + 1) : Nat), ⟨zo, (hU hi zo)⟩⟩ [] (P := (kM v) ∧ (kY (dI .i64 l)) ∧ (kQ n) ∧ (kM (n : Int)) ∧ (((((k + 1) : Nat) : Int) : Int) = ((k : Int) + 1))) zk ⟨rfl, rfl, rfl, rfl, (by rfl)⟩ (show n - (k + 1) < n - k from zo)
 ·refine kG [.b false] (¬ ((k : Int) < (n : Int))) [(1, iV v), (7, sV .i64 l n), (8, uV n), (9, uV k), (10, bV false)] [] 0 zo ?_
  refine AW.seq ?_
  refine zf ?_
  refine AW.exit ?_
  refine kG [.no] True [(4, iV (-1))] [] 0 trivial ?_
  refine AW.ret ?_
  exact kB (.inr rfl) [] (P := (((uJ l v n) : Int) = (-1))) zk (by (rw [show n = k by omega]; exact hi))
theorem k0l (l : List Int) (n : Nat) (v : Int) (hn : List.length l = n) (hm : n ≤ 1000000) : Fun 103 [.c (.d (D.sl (dI .i64 l) n)), iE v] (kD []) 0 (iV (uJ l v n)) (kD []) 0 := by
 refine Fun.mk (n := 8) Tryz.func103 rfl rfl (Nat.le_of_ble_eq_true rfl) ?_
 intro cx hcx
 refine kG [.no] True [(0, sV .i64 l n), (1, iV v)] [] 0 trivial ?_
 have hx1 : ((((-1) : Int) ≤ (uJ l v n)) ∧ ((uJ l v n) < ((n : Nat) : Int))) := cN l v n
 refine kV [.no, .no, .call [] (iV (uJ l v n)) [] 0 [] none, .no] _ [(4, iV (uJ l v n))] (k6n l n v zo zo) ?_
 refine AW.ret ?_
 exact kB (.inr rfl) [] (P := (kM (uJ l v n))) zk rfl
theorem k6o (p : Int)  : Fun 102 [iE p] (kD []) 0 (kP (D.lit (.bool (decide (1 ≤ p ∧ p ≤ 8))))) (kD []) 0 := by
 refine Fun.mk (n := 9) Tryz.func102 rfl rfl (Nat.le_of_ble_eq_true rfl) ?_
 intro cx hcx
 refine kG [.no] True [(0, iV p)] [] 0 trivial ?_
 by_cases hx1 : ((1 : Int) ≤ p)
 ·by_cases hx2 : (p ≤ 8)
  ·refine kV [.no, .b true, .no, .no, .b true, .no, .no] ((((1 : Int) ≤ p)) ∧ ((p ≤ 8))) [(2, bV true)] ⟨zo, zo⟩ ?_
   refine AW.ret ?_
   exact kB (.inr rfl) [] (P := ((decide (1 ≤ p ∧ p ≤ 8)) = true)) zk (by exact decide_eq_true zo)
  ·refine kV [.no, .b true, .no, .no, .b false, .no, .no] ((((1 : Int) ≤ p)) ∧ (¬ (p ≤ 8))) [(2, bV false)] ⟨zo, zo⟩ ?_
   refine AW.ret ?_
   exact kB (.inr rfl) [] (P := ((decide (1 ≤ p ∧ p ≤ 8)) = false)) zk (by exact decide_eq_false zo)
 ·refine kV [.no, .b false, .no, .no, .no] (¬ ((1 : Int) ≤ p)) [(2, bV false)] zo ?_
  refine AW.ret ?_
  exact kB (.inr rfl) [] (P := ((decide (1 ≤ p ∧ p ≤ 8)) = false)) zk (by exact decide_eq_false zo)
theorem rE (l : List Int) (n : Nat) (hn : List.length l = n) (hm : n ≤ 1000000) : Fun 96 [.c (.d (D.sl (dI .i64 l) n))] (kD []) 0 (kP (D.lit (.bool (fG l n)))) (kD []) 0 := by
 refine Fun.mk (n := 31) Tryz.func96 rfl rfl (Nat.le_of_ble_eq_true rfl) ?_
 intro cx hcx
 refine kG [.no] True [(0, sV .i64 l n)] [] 0 trivial ?_
 refine AW.seq ?_
 by_cases hx1 : (((n : Nat) : Int) < 1)
 ·refine kV [.no, .no, .b true, .no, .no] (((n : Int) < 1)) [(0, sV .i64 l n), (12, bV true)] zo ?_
  refine zt ?_
  refine kV [.no] True [(2, bV false)] trivial ?_
  refine AW.ret ?_
  exact kB (.inr rfl) [] (P := ((fG l n) = false)) zk (by exact k0h zo)
 ·by_cases hx2 : ((8 : Int) < ((n : Nat) : Int))
  ·refine kV [.no, .no, .b false, .no, .no, .no, .b true, .no] ((¬ ((n : Int) < 1)) ∧ (((8 : Int) < (n : Int)))) [(0, sV .i64 l n), (12, bV true)] ⟨zo, zo⟩ ?_
   refine zt ?_
   refine kV [.no] True [(2, bV false)] trivial ?_
   refine AW.ret ?_
   exact kB (.inr rfl) [] (P := ((fG l n) = false)) zk (by exact k0h zo)
  ·refine kV [.no, .no, .b false, .no, .no, .no, .b false, .no] ((¬ ((n : Int) < 1)) ∧ (¬ ((8 : Int) < (n : Int)))) [(0, sV .i64 l n), (12, bV false)] ⟨zo, zo⟩ ?_
   refine uM ?_
   refine AW.seq ?_
   refine kV [.no, .no, .no] True [(0, sV .i64 l n), (13, sV .i64 l n), (14, uV n), (15, iV 0)] trivial ?_
   refine AW.block ?_
   refine kU 0 hcx (fun (x : {x : Nat // match x with | k => (k ≤ n) ∧ (∀ j, j < k → chE l n j = true)}) => match x with | ⟨k, _⟩ => (⟨[(0, sV .i64 l n), (13, sV .i64 l n), (14, uV n), (15, uV k)], [], 0⟩ : ES)) (fun x => match x with | ⟨k, _⟩ => n - k) ⟨(0 : Nat), ⟨zo, (fun j hj => absurd hj (Nat.not_lt_zero j))⟩⟩ [] (P := (kY (dI .i64 l)) ∧ (kQ n) ∧ (kY (dI .i64 l)) ∧ (kQ n) ∧ (kM (n : Int)) ∧ (kM 0)) zk ⟨rfl, rfl, rfl, rfl, rfl, rfl⟩ ?_
   rintro ⟨k, hinv0⟩
   obtain ⟨hk, ha⟩ : (k ≤ n) ∧ (∀ j, j < k → chE l n j = true) := hinv0
   refine qV (l := [(0, sV .i64 l n), (13, sV .i64 l n), (14, uV n), (15, uV k)]) (g := []) (nx := 0) rfl rfl rfl ?_
   by_cases hx3 : (((k : Nat) : Int) < ((n : Nat) : Int))
   ·refine kG [.b true] (((k : Int) < (n : Int))) [(0, sV .i64 l n), (13, sV .i64 l n), (14, uV n), (15, uV k), (16, bV true)] [] 0 zo ?_
    refine AW.seq ?_
    refine u1 ?_
    refine AW.seq ?_
    refine AW.block ?_
    refine kV [.no, .n k, .d (D.lit (.int .i64 (List.getD l k 0))), .no, .no] ((kM (k : Int)) ∧ (k < n) ∧ ((List.drop k (dI .i64 l))[0]? = some (D.lit (.int .i64 (List.getD l k 0))))) [(0, sV .i64 l n), (3, uV k), (4, iV (List.getD l k 0)), (13, sV .i64 l n), (14, uV n), (15, uV k)] ⟨rfl, zo, (qN _ _ _ zo)⟩ ?_
    rcases Bool.eq_false_or_eq_true (decide (1 ≤ (List.getD l k 0) ∧ (List.getD l k 0) ≤ 8)) with hx4 | hx4
    ·have hx5 : (((1 : Int) ≤ (List.getD l k 0)) ∧ ((List.getD l k 0) ≤ 8)) := of_decide_eq_true hx4
     by_cases hx7 : ((uJ l (List.getD l k 0) n) ≠ ((k : Nat) : Int))
     ·have hx8 : ((((-1) : Int) ≤ (uJ l (List.getD l k 0) n)) ∧ ((uJ l (List.getD l k 0) n) < ((n : Nat) : Int))) := cN l (List.getD l k 0) n
      refine kV (.no :: .call [] (bV true) [] 0 [] none :: kJ 4 [.call [] (iV (uJ l (List.getD l k 0) n)) [] 0 [] none, .no, .b true, .no]) ((Fun 102 [iE (List.getD l k 0)] (kD []) 0 (bV true) (kD []) 0) ∧ (_) ∧ (((uJ l (List.getD l k 0) n) ≠ (k : Int)))) [(0, sV .i64 l n), (13, sV .i64 l n), (14, uV n), (15, uV k), (29, bV true)] ⟨(by have h0 := (k6o (List.getD l k 0)); rw [hx4] at h0; exact h0), (k0l l n (List.getD l k 0) zo zo), zo⟩ ?_
      refine zt ?_
      refine kV [.no] True [(2, bV false)] trivial ?_
      refine AW.ret ?_
      exact kB (.inr rfl) [] (P := ((fG l n) = false)) zk (by exact tQ (k := k) zo (decide_eq_false zo))
     ·have hx9 : ((((-1) : Int) ≤ (uJ l (List.getD l k 0) n)) ∧ ((uJ l (List.getD l k 0) n) < ((n : Nat) : Int))) := cN l (List.getD l k 0) n
      refine kV (.no :: .call [] (bV true) [] 0 [] none :: kJ 4 [.call [] (iV (uJ l (List.getD l k 0) n)) [] 0 [] none, .no, .b false, .no]) ((Fun 102 [iE (List.getD l k 0)] (kD []) 0 (bV true) (kD []) 0) ∧ (_) ∧ (¬ ((uJ l (List.getD l k 0) n) ≠ (k : Int)))) [(0, sV .i64 l n), (13, sV .i64 l n), (14, uV n), (15, uV k), (29, bV false)] ⟨(by have h0 := (k6o (List.getD l k 0)); rw [hx4] at h0; exact h0), (k0l l n (List.getD l k 0) zo zo), zo⟩ ?_
      refine uM ?_
      refine uG [.w, .no] (qB ((k : Int) + 1)) [(0, sV .i64 l n), (13, sV .i64 l n), (14, uV n), (15, iV (↑k + 1))] ⟨by omega, by omega⟩ ?_
      exact qH ⟨((k + 1) : Nat), ⟨zo, (fun j hj => (Nat.lt_succ_iff_lt_or_eq.1 hj).elim (ha j) (fun e9 => by subst e9; exact decide_eq_true zo))⟩⟩ [] (P := (kY (dI .i64 l)) ∧ (kQ n) ∧ (kY (dI .i64 l)) ∧ (kQ n) ∧ (kM (n : Int)) ∧ (((((k + 1) : Nat) : Int) : Int) = ((k : Int) + 1))) zk ⟨rfl, rfl, rfl, rfl, rfl, (by rfl)⟩ (show n - (k + 1) < n - k from zo)
    ·have hx10 : ¬ (((1 : Int) ≤ (List.getD l k 0)) ∧ ((List.getD l k 0) ≤ 8)) := of_decide_eq_false hx4
     refine kV [.no, .call [] (bV false) [] 0 [] none, .no, .no, .no] (Fun 102 [iE (List.getD l k 0)] (kD []) 0 (bV false) (kD []) 0) [(0, sV .i64 l n), (13, sV .i64 l n), (14, uV n), (15, uV k), (29, bV true)] (by have h0 := (k6o (List.getD l k 0)); rw [hx4] at h0; exact h0) ?_
     refine zt ?_
     refine kV [.no] True [(2, bV false)] trivial ?_
     refine AW.ret ?_
     exact kB (.inr rfl) [] (P := ((fG l n) = false)) zk (by exact tQ (k := k) zo (decide_eq_false zo))
   ·refine kG [.b false] (¬ ((k : Int) < (n : Int))) [(0, sV .i64 l n), (13, sV .i64 l n), (14, uV n), (15, uV k), (16, bV false)] [] 0 zo ?_
    refine AW.seq ?_
    refine zf ?_
    refine AW.exit ?_
    refine kG [.no] True [(2, bV true)] [] 0 trivial ?_
    refine AW.ret ?_
    exact kB (.inr rfl) [] (P := ((fG l n) = true)) zk (by exact k64 zo (fun j hj => ha j zo))
theorem lS (l : List Int) (n : Nat) (hn : List.length l = n) (hm : n ≤ 1000000) : Fun 86 [.c (.d (D.sl (dI .i64 l) n))] (kD []) 0 (kP (D.lit (.bool (fG l n)))) (kD []) 0 := by
 refine Fun.mk (n := 34) Tryz.func86 rfl rfl (Nat.le_of_ble_eq_true rfl) ?_
 intro cx hcx
 refine kG [.no] True [(0, sV .i64 l n)] [] 0 trivial ?_
 refine AW.seq ?_
 refine kV [.no, .no, .no] True [(0, sV .i64 l n), (5, sV .i64 l n), (6, uV n), (7, iV 0)] trivial ?_
 refine AW.block ?_
 refine kU 0 hcx (fun (x : {x : Nat // match x with | k => (k ≤ n) ∧ (∀ j, j < k → chE l n j = true)}) => match x with | ⟨k, _⟩ => (⟨[(0, sV .i64 l n), (5, sV .i64 l n), (6, uV n), (7, uV k)], [], 0⟩ : ES)) (fun x => match x with | ⟨k, _⟩ => n - k) ⟨(0 : Nat), ⟨zo, (fun j hj => absurd hj (Nat.not_lt_zero j))⟩⟩ [] (P := (kY (dI .i64 l)) ∧ (kQ n) ∧ (kY (dI .i64 l)) ∧ (kQ n) ∧ (kM (n : Int)) ∧ (kM 0)) zk ⟨rfl, rfl, rfl, rfl, rfl, rfl⟩ ?_
 rintro ⟨k, hinv0⟩
 obtain ⟨hk, ha⟩ : (k ≤ n) ∧ (∀ j, j < k → chE l n j = true) := hinv0
 refine qV (l := [(0, sV .i64 l n), (5, sV .i64 l n), (6, uV n), (7, uV k)]) (g := []) (nx := 0) rfl rfl rfl ?_
 by_cases hx1 : (((k : Nat) : Int) < ((n : Nat) : Int))
 ·refine kG [.b true] (((k : Int) < (n : Int))) [(0, sV .i64 l n), (5, sV .i64 l n), (6, uV n), (7, uV k), (8, bV true)] [] 0 zo ?_
  refine AW.seq ?_
  refine u1 ?_
  refine AW.seq ?_
  refine AW.block ?_
  refine kV [.no, .n k, .d (D.lit (.int .i64 (List.getD l k 0))), .no, .no] ((kM (k : Int)) ∧ (k < n) ∧ ((List.drop k (dI .i64 l))[0]? = some (D.lit (.int .i64 (List.getD l k 0))))) [(0, sV .i64 l n), (3, uV k), (4, iV (List.getD l k 0)), (5, sV .i64 l n), (6, uV n), (7, uV k)] ⟨rfl, zo, (qN _ _ _ zo)⟩ ?_
  by_cases hx2 : ((List.getD l k 0) < 1)
  ·refine kV (.no :: .b true :: kJ 4 []) (((List.getD l k 0) < 1)) [(0, sV .i64 l n), (5, sV .i64 l n), (6, uV n), (7, uV k), (24, bV true)] zo ?_
   refine zt ?_
   refine kV [.no] True [(2, bV false)] trivial ?_
   refine AW.ret ?_
   exact kB (.inr rfl) [] (P := ((fG l n) = false)) zk (by exact tQ (k := k) zo (decide_eq_false zo))
  ·by_cases hx3 : ((8 : Int) < (List.getD l k 0))
   ·refine kV [.no, .b false, .no, .no, .b true, .no, .no, .no] ((¬ ((List.getD l k 0) < 1)) ∧ (((8 : Int) < (List.getD l k 0)))) [(0, sV .i64 l n), (5, sV .i64 l n), (6, uV n), (7, uV k), (24, bV true)] ⟨zo, zo⟩ ?_
    refine zt ?_
    refine kV [.no] True [(2, bV false)] trivial ?_
    refine AW.ret ?_
    exact kB (.inr rfl) [] (P := ((fG l n) = false)) zk (by exact tQ (k := k) zo (decide_eq_false zo))
   ·by_cases hx5 : ((uJ l (List.getD l k 0) n) ≠ ((k : Nat) : Int))
    ·have hx6 : ((((-1) : Int) ≤ (uJ l (List.getD l k 0) n)) ∧ ((uJ l (List.getD l k 0) n) < ((n : Nat) : Int))) := cN l (List.getD l k 0) n
     refine kV (.no :: .b false :: .no :: .no :: .b false :: kJ 4 [.call [] (iV (uJ l (List.getD l k 0) n)) [] 0 [] none, .no, .b true, .no]) ((¬ ((List.getD l k 0) < 1)) ∧ (¬ ((8 : Int) < (List.getD l k 0))) ∧ (_) ∧ (((uJ l (List.getD l k 0) n) ≠ (k : Int)))) [(0, sV .i64 l n), (5, sV .i64 l n), (6, uV n), (7, uV k), (24, bV true)] ⟨zo, zo, (t3 l n (List.getD l k 0) zo zo), zo⟩ ?_
     refine zt ?_
     refine kV [.no] True [(2, bV false)] trivial ?_
     refine AW.ret ?_
     exact kB (.inr rfl) [] (P := ((fG l n) = false)) zk (by exact tQ (k := k) zo (decide_eq_false zo))
    ·have hx7 : ((((-1) : Int) ≤ (uJ l (List.getD l k 0) n)) ∧ ((uJ l (List.getD l k 0) n) < ((n : Nat) : Int))) := cN l (List.getD l k 0) n
     refine kV (.no :: .b false :: .no :: .no :: .b false :: kJ 4 [.call [] (iV (uJ l (List.getD l k 0) n)) [] 0 [] none, .no, .b false, .no]) ((¬ ((List.getD l k 0) < 1)) ∧ (¬ ((8 : Int) < (List.getD l k 0))) ∧ (_) ∧ (¬ ((uJ l (List.getD l k 0) n) ≠ (k : Int)))) [(0, sV .i64 l n), (5, sV .i64 l n), (6, uV n), (7, uV k), (24, bV false)] ⟨zo, zo, (t3 l n (List.getD l k 0) zo zo), zo⟩ ?_
     refine uM ?_
     refine uG [.w, .no] (qB ((k : Int) + 1)) [(0, sV .i64 l n), (5, sV .i64 l n), (6, uV n), (7, iV (↑k + 1))] ⟨by omega, by omega⟩ ?_
     exact qH ⟨((k + 1) : Nat), ⟨zo, (fun j hj => (Nat.lt_succ_iff_lt_or_eq.1 hj).elim (ha j) (fun e9 => by subst e9; exact decide_eq_true zo))⟩⟩ [] (P := (kY (dI .i64 l)) ∧ (kQ n) ∧ (kY (dI .i64 l)) ∧ (kQ n) ∧ (kM (n : Int)) ∧ (((((k + 1) : Nat) : Int) : Int) = ((k : Int) + 1))) zk ⟨rfl, rfl, rfl, rfl, rfl, (by rfl)⟩ (show n - (k + 1) < n - k from zo)
 ·refine kG [.b false] (¬ ((k : Int) < (n : Int))) [(0, sV .i64 l n), (5, sV .i64 l n), (6, uV n), (7, uV k), (8, bV false)] [] 0 zo ?_
  refine AW.seq ?_
  refine zf ?_
  refine AW.exit ?_
  by_cases hx8 : ((1 : Int) ≤ ((n : Nat) : Int))
  ·by_cases hx9 : (((n : Nat) : Int) ≤ 8)
   ·refine kG [.no, .no, .b true, .no, .no, .no, .b true, .no, .no] ((((1 : Int) ≤ (n : Int))) ∧ (((n : Int) ≤ 8))) [(2, bV true)] [] 0 ⟨zo, zo⟩ ?_
    refine AW.ret ?_
    exact kB (.inr rfl) [] (P := ((fG l n) = true)) zk (by exact k64 zo (fun j hj => ha j zo))
   ·refine kG [.no, .no, .b true, .no, .no, .no, .b false, .no, .no] ((((1 : Int) ≤ (n : Int))) ∧ (¬ ((n : Int) ≤ 8))) [(2, bV false)] [] 0 ⟨zo, zo⟩ ?_
    refine AW.ret ?_
    exact kB (.inr rfl) [] (P := ((fG l n) = false)) zk (by exact k0h zo)
  ·refine kG [.no, .no, .b false, .no, .no, .no] (¬ ((1 : Int) ≤ (n : Int))) [(2, bV false)] [] 0 zo ?_
   refine AW.ret ?_
   exact kB (.inr rfl) [] (P := ((fG l n) = false)) zk (by exact k0h zo)
theorem t2 (a b : List Int) (n m : Nat) (hn : List.length a = n) (hm : List.length b = m) (h2 : n ≤ 1000000) (h3 : m ≤ 1000000) : Fun 109 [.c (.d (D.sl (dI .i64 a) n)), .c (.d (D.sl (dI .i64 b) m))] (kD []) 0 (kP (D.lit (.bool (cS a b)))) (kD []) 0 := by
 refine Fun.mk (n := 26) Tryz.func109 rfl rfl (Nat.le_of_ble_eq_true rfl) ?_
 intro cx hcx
 refine kG [.no] True [(0, sV .i64 a n), (1, sV .i64 b m)] [] 0 trivial ?_
 refine AW.seq ?_
 by_cases hx1 : (((n : Nat) : Int) ≠ ((m : Nat) : Int))
 ·refine kV (kJ 4 [.b true]) (((n : Int) ≠ (m : Int))) [(0, sV .i64 a n), (1, sV .i64 b m), (10, bV true)] zo ?_
  refine zt ?_
  refine kV [.no] True [(4, bV false)] trivial ?_
  refine AW.ret ?_
  exact kB (.inr rfl) [] (P := ((cS a b) = false)) zk (by exact u0a zo)
 ·refine kV (kJ 4 [.b false]) (¬ ((n : Int) ≠ (m : Int))) [(0, sV .i64 a n), (1, sV .i64 b m), (10, bV false)] zo ?_
  refine uM ?_
  refine AW.seq ?_
  refine kV [.no, .no, .no] True [(0, sV .i64 a n), (1, sV .i64 b m), (12, uV n), (13, iV 0)] trivial ?_
  refine AW.block ?_
  refine kU 0 hcx (fun (x : {x : Nat // match x with | k => (k ≤ n) ∧ (∀ j, j < k → List.getD a j 0 = List.getD b j 0)}) => match x with | ⟨k, _⟩ => (⟨[(0, sV .i64 a n), (1, sV .i64 b m), (12, uV n), (13, uV k)], [], 0⟩ : ES)) (fun x => match x with | ⟨k, _⟩ => n - k) ⟨(0 : Nat), ⟨zo, (fun j hj => absurd hj (Nat.not_lt_zero j))⟩⟩ [] (P := (kY (dI .i64 a)) ∧ (kQ n) ∧ (kY (dI .i64 b)) ∧ (kQ m) ∧ (kM (n : Int)) ∧ (kM 0)) zk ⟨rfl, rfl, rfl, rfl, rfl, rfl⟩ ?_
  rintro ⟨k, hinv0⟩
  obtain ⟨hk, ha⟩ : (k ≤ n) ∧ (∀ j, j < k → List.getD a j 0 = List.getD b j 0) := hinv0
  refine qV (l := [(0, sV .i64 a n), (1, sV .i64 b m), (12, uV n), (13, uV k)]) (g := []) (nx := 0) rfl rfl rfl ?_
  by_cases hx2 : (((k : Nat) : Int) < ((n : Nat) : Int))
  ·refine kG [.b true] (((k : Int) < (n : Int))) [(0, sV .i64 a n), (1, sV .i64 b m), (12, uV n), (13, uV k), (14, bV true)] [] 0 zo ?_
   refine AW.seq ?_
   refine u1 ?_
   refine AW.seq ?_
   refine AW.block ?_
   refine kV [.no, .no] True [(0, sV .i64 a n), (1, sV .i64 b m), (5, uV k), (12, uV n), (13, uV k)] trivial ?_
   by_cases hx3 : ((List.getD a k 0) ≠ (List.getD b k 0))
   ·refine kV [.no, .no, .n k, .d (D.lit (.int .i64 (List.getD a k 0))), .no, .no, .n k, .d (D.lit (.int .i64 (List.getD b k 0))), .b true] ((kM (k : Int)) ∧ (k < n) ∧ ((List.drop k (dI .i64 a))[0]? = some (D.lit (.int .i64 (List.getD a k 0)))) ∧ (kM (k : Int)) ∧ (k < m) ∧ ((List.drop k (dI .i64 b))[0]? = some (D.lit (.int .i64 (List.getD b k 0)))) ∧ (((List.getD a k 0) ≠ (List.getD b k 0)))) [(0, sV .i64 a n), (1, sV .i64 b m), (12, uV n), (13, uV k), (24, bV true)] ⟨rfl, zo, (qN _ _ _ zo), rfl, zo, (qN _ _ _ zo), zo⟩ ?_
    refine zt ?_
    refine kV [.no] True [(4, bV false)] trivial ?_
    refine AW.ret ?_
    exact kB (.inr rfl) [] (P := ((cS a b) = false)) zk (by exact u09 (k := k) zo)
   ·refine kV [.no, .no, .n k, .d (D.lit (.int .i64 (List.getD a k 0))), .no, .no, .n k, .d (D.lit (.int .i64 (List.getD b k 0))), .b false] ((kM (k : Int)) ∧ (k < n) ∧ ((List.drop k (dI .i64 a))[0]? = some (D.lit (.int .i64 (List.getD a k 0)))) ∧ (kM (k : Int)) ∧ (k < m) ∧ ((List.drop k (dI .i64 b))[0]? = some (D.lit (.int .i64 (List.getD b k 0)))) ∧ (¬ ((List.getD a k 0) ≠ (List.getD b k 0)))) [(0, sV .i64 a n), (1, sV .i64 b m), (12, uV n), (13, uV k), (24, bV false)] ⟨rfl, zo, (qN _ _ _ zo), rfl, zo, (qN _ _ _ zo), zo⟩ ?_
    refine uM ?_
    refine uG [.w, .no] (qB ((k : Int) + 1)) [(0, sV .i64 a n), (1, sV .i64 b m), (12, uV n), (13, iV (↑k + 1))] ⟨by omega, by omega⟩ ?_
    exact qH ⟨((k + 1) : Nat), ⟨zo, (fun j hj => (Nat.lt_succ_iff_lt_or_eq.1 hj).elim (ha j) (fun e9 => by subst e9; omega))⟩⟩ [] (P := (kY (dI .i64 a)) ∧ (kQ n) ∧ (kY (dI .i64 b)) ∧ (kQ m) ∧ (kM (n : Int)) ∧ (((((k + 1) : Nat) : Int) : Int) = ((k : Int) + 1))) zk ⟨rfl, rfl, rfl, rfl, rfl, (by rfl)⟩ (show n - (k + 1) < n - k from zo)
  ·refine kG [.b false] (¬ ((k : Int) < (n : Int))) [(0, sV .i64 a n), (1, sV .i64 b m), (12, uV n), (13, uV k), (14, bV false)] [] 0 zo ?_
   refine AW.seq ?_
   refine zf ?_
   refine AW.exit ?_
   refine kG [.no] True [(4, bV true)] [] 0 trivial ?_
   refine AW.ret ?_
   exact kB (.inr rfl) [] (P := ((cS a b) = true)) zk (by exact u08 zo (fun j hj => ha j zo))
theorem jB (a b : List Int) (n m : Nat) (hn : List.length a = n) (hm : List.length b = m) (h2 : n ≤ 1000000) (h3 : m ≤ 1000000) : Fun 78 [.c (.d (D.sl (dI .i64 a) n)), .c (.d (D.sl (dI .i64 b) m))] (kD []) 0 (kP (D.lit (.bool (cS a b)))) (kD []) 0 := by
 refine Fun.mk (n := 26) Tryz.func78 rfl rfl (Nat.le_of_ble_eq_true rfl) ?_
 intro cx hcx
 refine kG [.no] True [(0, sV .i64 a n), (1, sV .i64 b m)] [] 0 trivial ?_
 refine AW.seq ?_
 by_cases hx1 : (((n : Nat) : Int) ≠ ((m : Nat) : Int))
 ·refine kV (kJ 4 [.b true]) (((n : Int) ≠ (m : Int))) [(0, sV .i64 a n), (1, sV .i64 b m), (10, bV true)] zo ?_
  refine zt ?_
  refine kV [.no] True [(4, bV false)] trivial ?_
  refine AW.ret ?_
  exact kB (.inr rfl) [] (P := ((cS a b) = false)) zk (by exact u0a zo)
 ·refine kV (kJ 4 [.b false]) (¬ ((n : Int) ≠ (m : Int))) [(0, sV .i64 a n), (1, sV .i64 b m), (10, bV false)] zo ?_
  refine uM ?_
  refine AW.seq ?_
  refine kV [.no, .no, .no] True [(0, sV .i64 a n), (1, sV .i64 b m), (12, uV n), (13, iV 0)] trivial ?_
  refine AW.block ?_
  refine kU 0 hcx (fun (x : {x : Nat // match x with | k => (k ≤ n) ∧ (∀ j, j < k → List.getD a j 0 = List.getD b j 0)}) => match x with | ⟨k, _⟩ => (⟨[(0, sV .i64 a n), (1, sV .i64 b m), (12, uV n), (13, uV k)], [], 0⟩ : ES)) (fun x => match x with | ⟨k, _⟩ => n - k) ⟨(0 : Nat), ⟨zo, (fun j hj => absurd hj (Nat.not_lt_zero j))⟩⟩ [] (P := (kY (dI .i64 a)) ∧ (kQ n) ∧ (kY (dI .i64 b)) ∧ (kQ m) ∧ (kM (n : Int)) ∧ (kM 0)) zk ⟨rfl, rfl, rfl, rfl, rfl, rfl⟩ ?_
  rintro ⟨k, hinv0⟩
  obtain ⟨hk, ha⟩ : (k ≤ n) ∧ (∀ j, j < k → List.getD a j 0 = List.getD b j 0) := hinv0
  refine qV (l := [(0, sV .i64 a n), (1, sV .i64 b m), (12, uV n), (13, uV k)]) (g := []) (nx := 0) rfl rfl rfl ?_
  by_cases hx2 : (((k : Nat) : Int) < ((n : Nat) : Int))
  ·refine kG [.b true] (((k : Int) < (n : Int))) [(0, sV .i64 a n), (1, sV .i64 b m), (12, uV n), (13, uV k), (14, bV true)] [] 0 zo ?_
   refine AW.seq ?_
   refine u1 ?_
   refine AW.seq ?_
   refine AW.block ?_
   refine kV [.no, .no] True [(0, sV .i64 a n), (1, sV .i64 b m), (5, uV k), (12, uV n), (13, uV k)] trivial ?_
   by_cases hx3 : ((List.getD a k 0) ≠ (List.getD b k 0))
   ·refine kV [.no, .no, .n k, .d (D.lit (.int .i64 (List.getD a k 0))), .no, .no, .n k, .d (D.lit (.int .i64 (List.getD b k 0))), .b true] ((kM (k : Int)) ∧ (k < n) ∧ ((List.drop k (dI .i64 a))[0]? = some (D.lit (.int .i64 (List.getD a k 0)))) ∧ (kM (k : Int)) ∧ (k < m) ∧ ((List.drop k (dI .i64 b))[0]? = some (D.lit (.int .i64 (List.getD b k 0)))) ∧ (((List.getD a k 0) ≠ (List.getD b k 0)))) [(0, sV .i64 a n), (1, sV .i64 b m), (12, uV n), (13, uV k), (24, bV true)] ⟨rfl, zo, (qN _ _ _ zo), rfl, zo, (qN _ _ _ zo), zo⟩ ?_
    refine zt ?_
    refine kV [.no] True [(4, bV false)] trivial ?_
    refine AW.ret ?_
    exact kB (.inr rfl) [] (P := ((cS a b) = false)) zk (by exact u09 (k := k) zo)
   ·refine kV [.no, .no, .n k, .d (D.lit (.int .i64 (List.getD a k 0))), .no, .no, .n k, .d (D.lit (.int .i64 (List.getD b k 0))), .b false] ((kM (k : Int)) ∧ (k < n) ∧ ((List.drop k (dI .i64 a))[0]? = some (D.lit (.int .i64 (List.getD a k 0)))) ∧ (kM (k : Int)) ∧ (k < m) ∧ ((List.drop k (dI .i64 b))[0]? = some (D.lit (.int .i64 (List.getD b k 0)))) ∧ (¬ ((List.getD a k 0) ≠ (List.getD b k 0)))) [(0, sV .i64 a n), (1, sV .i64 b m), (12, uV n), (13, uV k), (24, bV false)] ⟨rfl, zo, (qN _ _ _ zo), rfl, zo, (qN _ _ _ zo), zo⟩ ?_
    refine uM ?_
    refine uG [.w, .no] (qB ((k : Int) + 1)) [(0, sV .i64 a n), (1, sV .i64 b m), (12, uV n), (13, iV (↑k + 1))] ⟨by omega, by omega⟩ ?_
    exact qH ⟨((k + 1) : Nat), ⟨zo, (fun j hj => (Nat.lt_succ_iff_lt_or_eq.1 hj).elim (ha j) (fun e9 => by subst e9; omega))⟩⟩ [] (P := (kY (dI .i64 a)) ∧ (kQ n) ∧ (kY (dI .i64 b)) ∧ (kQ m) ∧ (kM (n : Int)) ∧ (((((k + 1) : Nat) : Int) : Int) = ((k : Int) + 1))) zk ⟨rfl, rfl, rfl, rfl, rfl, (by rfl)⟩ (show n - (k + 1) < n - k from zo)
  ·refine kG [.b false] (¬ ((k : Int) < (n : Int))) [(0, sV .i64 a n), (1, sV .i64 b m), (12, uV n), (13, uV k), (14, bV false)] [] 0 zo ?_
   refine AW.seq ?_
   refine zf ?_
   refine AW.exit ?_
   refine kG [.no] True [(4, bV true)] [] 0 trivial ?_
   refine AW.ret ?_
   exact kB (.inr rfl) [] (P := ((cS a b) = true)) zk (by exact u08 zo (fun j hj => ha j zo))
theorem u3s (a b : List Int) (n m : Nat) (hn : List.length a = n) (hm : List.length b = m) (h2 : n ≤ 1000000) (h3 : m ≤ 1000000) : Fun 106 [.c (.d (D.sl (dI .i64 a) n)), .c (.d (D.sl (dI .i64 b) m))] (kD []) 0 (kP (D.lit (.bool (cS a b)))) (kD []) 0 := by
 refine Fun.mk (n := 8) Tryz.func106 rfl rfl (Nat.le_of_ble_eq_true rfl) ?_
 intro cx hcx
 refine kG [.no] True [(0, sV .i64 a n), (1, sV .i64 b m)] [] 0 trivial ?_
 rcases Bool.eq_false_or_eq_true (cS a b) with hx1 | hx1
 ·refine kV [.no, .no, .call [] (bV true) [] 0 [] none, .no] (Fun 109 [.c (.d (dl a n)), .c (.d (dl b m))] (kD []) 0 (bV true) (kD []) 0) [(4, bV true)] (by have h0 := (t2 a b n m zo zo zo zo); rw [hx1] at h0; exact h0) ?_
  refine AW.ret ?_
  exact kB (.inr rfl) [] (P := ((cS a b) = true)) zk (by assumption)
 ·refine kV [.no, .no, .call [] (bV false) [] 0 [] none, .no] (Fun 109 [.c (.d (dl a n)), .c (.d (dl b m))] (kD []) 0 (bV false) (kD []) 0) [(4, bV false)] (by have h0 := (t2 a b n m zo zo zo zo); rw [hx1] at h0; exact h0) ?_
  refine AW.ret ?_
  exact kB (.inr rfl) [] (P := ((cS a b) = false)) zk (by assumption)
end Go.Proofs.YtdbjebdomdnbkaaGreat
