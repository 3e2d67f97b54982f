/- Bytes, decks of numbers. No statement is proved here. -/
import Derived.Test.YtkjmlililpgamaaZAmV
namespace Go.Proofs.Ytkjmlililpgamaa
open Go.ChangeShapes Go.WideShapes Go.ChangeAt Go.RowKit
open Int renaming emod_eq_of_lt → kk6, emod_lt_of_pos → kk1, emod_nonneg → kl4, mul_add_emod_self_left → kh9, mul_tdiv_add_tmod → kj1, tmod → kd2
open List renaming getD → ka2, getD_eq_getElem?_getD → ka9, map_cons → kd5, mem_cons_of_mem → kb9, mem_cons_self → ka7, mem_of_mem_take → kj0
open Nat renaming le_of_ble_eq_true → ka3
set_option linter.unusedVariables false
set_option linter.unusedSimpArgs false
set_option maxHeartbeats 4000000
set_option maxRecDepth 100000
def Byt (l : List Int) : Prop := ∀ x ∈ l, 0 ≤ x ∧ x ≤ 255
theorem Byt.at {l : List Int} (h : Byt l) (j : Nat) (hj : j < List.length l) : 0 ≤ ka2 l j 0 ∧ ka2 l j 0 ≤ 255 := by
  rw [ka9, List.getElem?_eq_getElem hj]
  exact h _ (List.getElem_mem hj)
theorem Byt.nil : Byt [] := fun x h => by cases h
theorem Byt.cons {x : Int} {l : List Int} (h : 0 ≤ x ∧ x ≤ 255) (hl : Byt l) : Byt (x :: l) := fun y hy => by
  rcases List.mem_cons.1 hy with rfl | hy
  · exact h
  · exact hl y hy
theorem Byt.app {l m : List Int} (h : Byt l) (h2 : Byt m) : Byt (l ++ m) := fun x hx => (List.mem_append.1 hx).elim (h x) (h2 x)
theorem Byt.drop {l : List Int} (h : Byt l) (n : Nat) : Byt (List.drop n l) := fun x hx => h x (List.mem_of_mem_drop hx)
theorem Byt.take {l : List Int} (h : Byt l) (n : Nat) : Byt (List.take n l) := fun x hx => h x (kj0 hx)
theorem Byt.rep (n : Nat) {x : Int} (h : 0 ≤ x ∧ x ≤ 255) : Byt (List.replicate n x) := fun y hy => by rw [(List.mem_replicate.1 hy).2]; exact h
theorem Byt.set {l : List Int} (h : Byt l) (n : Nat) {x : Int} (hx : 0 ≤ x ∧ x ≤ 255) : Byt (List.set l n x) := fun y hy => by
  rcases List.mem_or_eq_of_mem_set hy with hy | rfl
  · exact h y hy
  · exact hx
theorem k40 {l : List Int} (h : ∀ x ∈ l, 0 ≤ x ∧ x ≤ 255) : Byt l := h
def bsD (xs : List (List Int)) : List D := xs.map fun l => D.sl (dI .u8 l) l.length
theorem kK (xs : List (List Int)) : (bsD xs).length = xs.length := by unfold bsD; simp
def BytL (xs : List (List Int)) : Prop := ∀ l ∈ xs, Byt l
theorem BytL.at {xs : List (List Int)} (h : BytL xs) (i : Nat) : Byt (ka2 xs i []) := by
  rw [ka9]
  cases e : xs[i]? with
  | none => exact Byt.nil
  | some l => exact h l (List.mem_of_getElem? e)
theorem BytL.nil : BytL [] := fun l h => by cases h
theorem BytL.app {xs ys : List (List Int)} (h : BytL xs) (h2 : BytL ys) : BytL (xs ++ ys) := fun m hm => (List.mem_append.1 hm).elim (h m) (h2 m)
theorem BytL.take {xs : List (List Int)} (h : BytL xs) (n : Nat) : BytL (List.take n xs) := fun m hm => h m (kj0 hm)
/-! texts told as bytes -/
theorem nF {a b : Int} (ha : 0 ≤ a ∧ a ≤ 255) (hb : 0 ≤ b ∧ b ≤ 255) (h : UInt8.ofNat a.toNat = UInt8.ofNat b.toNat) : a = b := by
  have e := congrArg UInt8.toNat h
  rw [UInt8.toNat_ofNat', UInt8.toNat_ofNat'] at e
  omega
theorem iI : ∀ {a b : List Int}, Byt a → Byt b → a.map (fun n => UInt8.ofNat n.toNat) = b.map (fun n => UInt8.ofNat n.toNat) → a = b
  | [], [], _, _, _ => rfl
  | x :: xs, y :: ys, ha, hb, h => by
    rw [kd5, kd5, List.cons.injEq] at h
    rw [nF (ha x (ka7 ..)) (hb y (ka7 ..)) h.1, iI (fun z hz => ha z (kb9 _ hz)) (fun z hz => hb z (kb9 _ hz)) h.2]
  | [], _ :: _, _, _, h => by cases h
  | _ :: _, [], _, _, h => by cases h
theorem v8 {a b : List Int} (h : a = b) : (ByteArray.toList (strOfNums a) == ByteArray.toList (strOfNums b)) = true := by subst h; simp
theorem g7 {a b : List Int} (ha : Byt a) (hb : Byt b) (h : ¬ a = b) : (ByteArray.toList (strOfNums a) == ByteArray.toList (strOfNums b)) = false := by
  rw [beq_eq_false_iff_ne]
  intro e
  rw [ByteArray.toList_eq, ByteArray.toList_eq, strOfNums_data, strOfNums_data] at e
  exact h (iI ha hb e)
/-! numbers of a deck -/
theorem jO (v n : Int) (h : 1 ≤ n) : (-n < kd2 v n ∧ kd2 v n < n) := by
  constructor
  · have h1 := Int.lt_tmod_of_pos v (b := n) (by omega); omega
  · exact Int.tmod_lt_of_pos v (by omega)
theorem pQ {v n : Int} (hn : 1 ≤ n) (h : kd2 v n < 0) : v % n = kd2 v n + n := by
  have h1 := jO v n hn
  have h2 := kj1 v n
  have e : v % n = (kd2 v n + n) % n := by
    conv => lhs; rw [← h2]
    rw [Int.add_emod_right, kh9]
  rw [e, kk6 (by omega) (by omega)]
theorem pP {v n : Int} (hn : 1 ≤ n) (h : ¬ kd2 v n < 0) : v % n = kd2 v n := by
  have h1 := jO v n hn
  have h2 := kj1 v n
  have e : v % n = (kd2 v n) % n := by
    conv => lhs; rw [← h2]
    rw [kh9]
  rw [e, kk6 (by omega) (by omega)]
def kW (l : List Int) (a : Nat) (n : Int) : Nat := if a < l.length then (ka2 l a 0 % n).toNat else 0
def kU (l : List Int) (a : Nat) : Nat := if a < l.length then a + 1 else a
theorem tD {l : List Int} {a : Nat} {n : Int} (h : a < l.length) (hn : 1 ≤ n) : ((kW l a n : Nat) : Int) = ka2 l a 0 % n := by
  unfold kW; rw [if_pos h]; exact Int.toNat_of_nonneg (kl4 _ (by omega))
theorem tE {l : List Int} {a : Nat} {n : Int} (h : ¬ a < l.length) : ((kW l a n : Nat) : Int) = 0 := by unfold kW; rw [if_neg h]; rfl
theorem mN {l : List Int} {a : Nat} (h : a < l.length) : kU l a = a + 1 := if_pos h
theorem mO {l : List Int} {a : Nat} (h : ¬ a < l.length) : kU l a = a := if_neg h
theorem qY {l : List Int} {a m : Nat} (hm : l.length = m) (h : a ≤ m) : kU l a ≤ m := by unfold kU; split <;> omega
theorem yC (l : List Int) (a : Nat) {n : Int} (hn : 1 ≤ n) : ((kW l a n : Nat) : Int) < n := by
  by_cases h : a < l.length
  · rw [tD h hn]; exact kk1 _ (by omega)
  · rw [tE h]; omega
theorem tC (v n : Int) (h : 1 ≤ n) : 0 ≤ v % n ∧ v % n < n := ⟨kl4 _ (by omega), kk1 _ (by omega)⟩
@[reducible] def uU (x : Int) : Prop := ((-9223372036854775808) ≤ x ∧ x ≤ 9223372036854775807)
theorem k3j (v n : Int) (hn : 1 ≤ n ∧ n ≤ 4611686018427387904) : Fun 15 [iE v, iE n] (kC []) 0 (iV (v % n)) (kC []) 0 := by
  have ht : (0 - n < kd2 v n ∧ kd2 v n < n) := (by have h9 := jO v n (by omega); omega)
  refine Fun.mk (n := 15) Try.func15 rfl rfl (ka3 rfl) ?_
  intro cx hcx
  refine kI [.no] True [(0, iV v), (1, iV n)] [] 0 trivial ?_
  refine yT (qA 4 []) (¬ (n : Int) = 0) [(1, iV n), (5, iV (kd2 v n))] zo ?_
  refine AW.seq ?_
  by_cases hx1 : ((kd2 v n) < 0)
  · refine zr [.no, .b true] [1, 5, 10] [] (((kd2 v n) < 0)) [(1, iV n), (5, iV (kd2 v n)), (10, bV true)] [] 0 zo ?_
    refine zt ?_
    refine bQ [.no, .no, .w, .no] (uU ((kd2 v n) + n)) [(5, iV ((kd2 v n) + n))] [] 0 ⟨by omega, by omega⟩ ?_
    refine yT [.no, .no] True [(4, iV ((kd2 v n) + n))] trivial ?_
    refine AW.ret ?_
    exact kA (.inr rfl) [] (P := (((v % n) : Int) = ((kd2 v n) + n))) zk (by first | exact pQ zo (by assumption) | exact pP zo (by assumption) | omega | rfl)
  · refine zr [.no, .b false] [1, 5, 10] [] (¬ ((kd2 v n) < 0)) [(1, iV n), (5, iV (kd2 v n)), (10, bV false)] [] 0 zo ?_
    refine uF ?_
    refine kI [.no, .no] True [(4, iV (kd2 v n))] [] 0 trivial ?_
    refine AW.ret ?_
    exact kA (.inr rfl) [] (P := (((v % n) : Int) = (kd2 v n))) zk (by first | exact pQ zo (by assumption) | exact pP zo (by assumption) | omega | rfl)
theorem k3i (l : List Int) (m : Nat)  : Fun 7 [.c (.d (D.sl (dI .i64 l) m))] (kC []) 0 (rV 0 0) (kC [(0, some (51, .ds [D.sl (dI .i64 l) m, iD 0]))]) 1 := by
  refine Fun.mk (n := 6) Try.func7 rfl rfl (ka3 rfl) ?_
  intro cx hcx
  refine kI [.no] True [(0, sV .i64 l m)] [] 0 trivial ?_
  refine kI (qA 4 []) True [(2, rV 0 0)] [(0, some (51, .ds [dl l m, iD 0]))] 1 trivial ?_
  refine AW.ret ?_
  exact kA (.inr rfl) [] (P := (kT 0) ∧ (kR [dl l m, iD 0])) zk ⟨rfl, rfl⟩
theorem tZ (l : List Int) (m a : Nat)  : Fun 37 [.c (.ptr 0 0)] (kC [(0, some (51, .ds [D.sl (dI .i64 l) m, iD ((a : Nat) : Int)]))]) 1 (kL (D.lit (.bool (decide (((a : Nat) : Int) < ((m : Nat) : Int)))))) (kC [(0, some (51, .ds [D.sl (dI .i64 l) m, iD ((a : Nat) : Int)]))]) 1 := by
  refine Fun.mk (n := 13) Try.func37 rfl rfl (ka3 rfl) ?_
  intro cx hcx
  refine kI [.no] True [(0, rV 0 0)] [(0, some (51, .ds [dl l m, uD a]))] 1 trivial ?_
  by_cases hx1 : (((a : Nat) : Int) < ((m : Nat) : Int))
  · refine zr (qA 9 [.b true, .no]) [2] [0] (((a : Int) < (m : Int))) [(2, bV true)] [(0, some (51, .ds [dl l m, uD a]))] 1 zo ?_
    refine AW.ret ?_
    exact kA (.inr rfl) [] (P := ((decide ((a : Int) < (m : Int))) = true) ∧ (kR [dl l m, uD a])) zk ⟨(by first | exact decide_eq_true zo | exact decide_eq_false zo), rfl⟩
  · refine zr (qA 9 [.b false, .no]) [2] [0] (¬ ((a : Int) < (m : Int))) [(2, bV false)] [(0, some (51, .ds [dl l m, uD a]))] 1 zo ?_
    refine AW.ret ?_
    exact kA (.inr rfl) [] (P := ((decide ((a : Int) < (m : Int))) = false) ∧ (kR [dl l m, uD a])) zk ⟨(by first | exact decide_eq_true zo | exact decide_eq_false zo), rfl⟩
theorem vR (l : List Int) (m a : Nat) (n : Int) (hm : List.length l = m) (hb : m ≤ 9223372036854775807) (ha : a ≤ m) (hn : 1 ≤ n ∧ n ≤ 4611686018427387904) : Fun 21 [.c (.ptr 0 0), iE n] (kC [(0, some (51, .ds [D.sl (dI .i64 l) m, iD ((a : Nat) : Int)]))]) 1 (iV (((kW l a n) : Nat) : Int)) (kC [(0, some (51, .ds [D.sl (dI .i64 l) m, iD (((kU l a) : Nat) : Int)]))]) 1 := by
  refine Fun.mk (n := 28) Try.func21 rfl rfl (ka3 rfl) ?_
  intro cx hcx
  refine kI [.no] True [(0, rV 0 0), (1, iV n)] [(0, some (51, .ds [dl l m, uD a]))] 1 trivial ?_
  refine AW.seq ?_
  rcases Bool.eq_false_or_eq_true (decide (((a : Nat) : Int) < ((m : Nat) : Int))) with hx1 | hx1
  · have hx2 : (((a : Nat) : Int) < ((m : Nat) : Int)) := of_decide_eq_true hx1
    refine kI [.no, .call [0] (bV true) [(0, some (51, .ds [dl l m, uD a]))] 1 [] none, .no] (Fun 37 [.c (.ptr 0 0)] (kC [(0, some (51, .ds [dl l m, uD a]))]) 1 (bV true) (kC [(0, some (51, .ds [dl l m, uD a]))]) 1) [(0, rV 0 0), (1, iV n), (7, bV false)] [(0, some (51, .ds [dl l m, uD a]))] 1 (by have h0 := (tZ l m a); rw [hx1] at h0; exact h0) ?_
    refine uF ?_
    refine kI (qA 4 [.w, .no, .no, .no]) (uU ((a : Int) + 1)) [(0, rV 0 0), (1, iV n)] [(0, some (51, .ds [dl l m, iD (↑a + 1)]))] 1 ⟨by omega, by omega⟩ ?_
    have hx3 : (((0 : Int) ≤ ((ka2 l ((a + 1) - 1) 0) % n)) ∧ (((ka2 l ((a + 1) - 1) 0) % n) < n)) := tC (ka2 l ((a + 1) - 1) 0) n zo
    refine yT (qA 8 [.w, .n ((a + 1) - 1), .d (D.lit (.int .i64 (ka2 l ((a + 1) - 1) 0))), .no, .call [] (iV ((ka2 l ((a + 1) - 1) 0) % n)) [] 0 [] none, .no]) ((uU (((a : Int) + 1) - 1)) ∧ (((((a : Int) + 1) - 1) : Int) = ((((a + 1) - 1) : Nat) : Int)) ∧ (((a + 1) - 1) < m) ∧ ((List.drop ((a + 1) - 1) (dI .i64 l))[0]? = some (D.lit (.int .i64 (ka2 l ((a + 1) - 1) 0)))) ∧ (_)) [(4, iV ((ka2 l ((a + 1) - 1) 0) % n))] ⟨⟨by omega, by omega⟩, (by first | rfl | omega), zo, (qV _ _ _ (by first | omega | (simp only [kK, uL, List.length_append, List.length_cons, List.length_nil, List.length_take, List.length_drop, List.length_replicate, List.length_set, List.length_map, List.length_reverse, Nat.mul_one] <;> omega) | rfl)), (k3j (ka2 l ((a + 1) - 1) 0) n zo)⟩ ?_
    refine AW.ret ?_
    exact kA (.inr rfl) [] (P := (((kW l a n : Int) : Int) = ((ka2 l ((a + 1) - 1) 0) % n)) ∧ (([dl l m, uD (kU l a)] : List D) = [dl l m, iD ((a : Int) + 1)])) zk ⟨(by first | exact tD zo zo | exact tE zo | (rw [mN (by omega)]; rfl) | (rw [mO (by omega)]) | omega | rfl), (by first | (rw [mN (by omega)]; rfl) | rw [mO (by omega)])⟩
  · have hx4 : ¬ (((a : Nat) : Int) < ((m : Nat) : Int)) := of_decide_eq_false hx1
    refine kI [.no, .call [0] (bV false) [(0, some (51, .ds [dl l m, uD a]))] 1 [] none, .no] (Fun 37 [.c (.ptr 0 0)] (kC [(0, some (51, .ds [dl l m, uD a]))]) 1 (bV false) (kC [(0, some (51, .ds [dl l m, uD a]))]) 1) [(0, rV 0 0), (1, iV n), (7, bV true)] [(0, some (51, .ds [dl l m, uD a]))] 1 (by have h0 := (tZ l m a); rw [hx1] at h0; exact h0) ?_
    refine zt ?_
    refine yT [.no] True [(4, iV 0)] trivial ?_
    refine AW.ret ?_
    exact kA (.inr rfl) [] (P := (((kW l a n : Int) : Int) = 0) ∧ (([dl l m, uD (kU l a)] : List D) = [dl l m, uD a])) zk ⟨(by first | exact tD zo zo | exact tE zo | (rw [mN (by omega)]; rfl) | (rw [mO (by omega)]) | omega | rfl), (by first | (rw [mN (by omega)]; rfl) | rw [mO (by omega)])⟩
end Go.Proofs.Ytkjmlililpgamaa
