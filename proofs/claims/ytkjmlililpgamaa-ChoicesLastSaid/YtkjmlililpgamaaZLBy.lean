/- Bytes, decks of numbers. No statement is proved here. -/
import Derived.Test.YtkjmlililpgamaaZAmV
namespace Go.Proofs.Ytkjmlililpgamaa
open Go.ChangeShapes Go.WideShapes Go.ChangeAt Go.RowKit
open Int renaming emod_eq_of_lt → kk7, emod_lt_of_pos → kk2, emod_nonneg → kl4, mul_add_emod_self_left → ki1, mul_tdiv_add_tmod → kj3, tmod → kd4
open List renaming getD → ka2, getD_eq_getElem?_getD → kb0, map_cons → kd2, mem_cons_of_mem → ka9, mem_cons_self → ka4, mem_of_mem_take → kj2
open Nat renaming le_of_ble_eq_true → ka3
set_option linter.unusedVariables false
set_option linter.unusedSimpArgs false
set_option maxHeartbeats 4000000
set_option maxRecDepth 100000
def Byt (l : List Int) : Prop := ∀ x ∈ l, 0 ≤ x ∧ x ≤ 255
theorem Byt.at {l : List Int} (h : Byt l) (j : Nat) (hj : j < List.length l) : 0 ≤ ka2 l j 0 ∧ ka2 l j 0 ≤ 255 := by
  rw [kb0, List.getElem?_eq_getElem hj]
  exact h _ (List.getElem_mem hj)
theorem Byt.nil : Byt [] := fun x h => by cases h
theorem Byt.cons {x : Int} {l : List Int} (h : 0 ≤ x ∧ x ≤ 255) (hl : Byt l) : Byt (x :: l) := fun y hy => by
  rcases List.mem_cons.1 hy with rfl | hy
  · exact h
  · exact hl y hy
theorem Byt.app {l m : List Int} (h : Byt l) (h2 : Byt m) : Byt (l ++ m) := fun x hx => (List.mem_append.1 hx).elim (h x) (h2 x)
theorem Byt.drop {l : List Int} (h : Byt l) (n : Nat) : Byt (List.drop n l) := fun x hx => h x (List.mem_of_mem_drop hx)
theorem Byt.take {l : List Int} (h : Byt l) (n : Nat) : Byt (List.take n l) := fun x hx => h x (kj2 hx)
theorem Byt.rep (n : Nat) {x : Int} (h : 0 ≤ x ∧ x ≤ 255) : Byt (List.replicate n x) := fun y hy => by rw [(List.mem_replicate.1 hy).2]; exact h
theorem Byt.set {l : List Int} (h : Byt l) (n : Nat) {x : Int} (hx : 0 ≤ x ∧ x ≤ 255) : Byt (List.set l n x) := fun y hy => by
  rcases List.mem_or_eq_of_mem_set hy with hy | rfl
  · exact h y hy
  · exact hx
theorem k53 {l : List Int} (h : ∀ x ∈ l, 0 ≤ x ∧ x ≤ 255) : Byt l := h
def bsD (xs : List (List Int)) : List D := xs.map fun l => D.sl (dI .u8 l) l.length
theorem kL (xs : List (List Int)) : (bsD xs).length = xs.length := by unfold bsD; simp
def BytL (xs : List (List Int)) : Prop := ∀ l ∈ xs, Byt l
theorem BytL.at {xs : List (List Int)} (h : BytL xs) (i : Nat) : Byt (ka2 xs i []) := by
  rw [kb0]
  cases e : xs[i]? with
  | none => exact Byt.nil
  | some l => exact h l (List.mem_of_getElem? e)
theorem BytL.nil : BytL [] := fun l h => by cases h
theorem BytL.app {xs ys : List (List Int)} (h : BytL xs) (h2 : BytL ys) : BytL (xs ++ ys) := fun m hm => (List.mem_append.1 hm).elim (h m) (h2 m)
theorem BytL.take {xs : List (List Int)} (h : BytL xs) (n : Nat) : BytL (List.take n xs) := fun m hm => h m (kj2 hm)
/-! texts told as bytes -/
theorem oI {a b : Int} (ha : 0 ≤ a ∧ a ≤ 255) (hb : 0 ≤ b ∧ b ≤ 255) (h : UInt8.ofNat a.toNat = UInt8.ofNat b.toNat) : a = b := by
  have e := congrArg UInt8.toNat h
  rw [UInt8.toNat_ofNat', UInt8.toNat_ofNat'] at e
  omega
theorem jJ : ∀ {a b : List Int}, Byt a → Byt b → a.map (fun n => UInt8.ofNat n.toNat) = b.map (fun n => UInt8.ofNat n.toNat) → a = b
  | [], [], _, _, _ => rfl
  | x :: xs, y :: ys, ha, hb, h => by
    rw [kd2, kd2, List.cons.injEq] at h
    rw [oI (ha x (ka4 ..)) (hb y (ka4 ..)) h.1, jJ (fun z hz => ha z (ka9 _ hz)) (fun z hz => hb z (ka9 _ hz)) h.2]
  | [], _ :: _, _, _, h => by cases h
  | _ :: _, [], _, _, h => by cases h
theorem aC {a b : List Int} (h : a = b) : (ByteArray.toList (strOfNums a) == ByteArray.toList (strOfNums b)) = true := by subst h; simp
theorem iW {a b : List Int} (ha : Byt a) (hb : Byt b) (h : ¬ a = b) : (ByteArray.toList (strOfNums a) == ByteArray.toList (strOfNums b)) = false := by
  rw [beq_eq_false_iff_ne]
  intro e
  rw [ByteArray.toList_eq, ByteArray.toList_eq, strOfNums_data, strOfNums_data] at e
  exact h (jJ ha hb e)
/-! numbers of a deck -/
theorem lI (v n : Int) (h : 1 ≤ n) : (-n < kd4 v n ∧ kd4 v n < n) := by
  constructor
  · have h1 := Int.lt_tmod_of_pos v (b := n) (by omega); omega
  · exact Int.tmod_lt_of_pos v (by omega)
theorem r7 {v n : Int} (hn : 1 ≤ n) (h : kd4 v n < 0) : v % n = kd4 v n + n := by
  have h1 := lI v n hn
  have h2 := kj3 v n
  have e : v % n = (kd4 v n + n) % n := by
    conv => lhs; rw [← h2]
    rw [Int.add_emod_right, ki1]
  rw [e, kk7 (by omega) (by omega)]
theorem r6 {v n : Int} (hn : 1 ≤ n) (h : ¬ kd4 v n < 0) : v % n = kd4 v n := by
  have h1 := lI v n hn
  have h2 := kj3 v n
  have e : v % n = (kd4 v n) % n := by
    conv => lhs; rw [← h2]
    rw [ki1]
  rw [e, kk7 (by omega) (by omega)]
def kZ (l : List Int) (a : Nat) (n : Int) : Nat := if a < l.length then (ka2 l a 0 % n).toNat else 0
def kV (l : List Int) (a : Nat) : Nat := if a < l.length then a + 1 else a
theorem wM {l : List Int} {a : Nat} {n : Int} (h : a < l.length) (hn : 1 ≤ n) : ((kZ l a n : Nat) : Int) = ka2 l a 0 % n := by
  unfold kZ; rw [if_pos h]; exact Int.toNat_of_nonneg (kl4 _ (by omega))
theorem wN {l : List Int} {a : Nat} {n : Int} (h : ¬ a < l.length) : ((kZ l a n : Nat) : Int) = 0 := by unfold kZ; rw [if_neg h]; rfl
theorem nQ {l : List Int} {a : Nat} (h : a < l.length) : kV l a = a + 1 := if_pos h
theorem nR {l : List Int} {a : Nat} (h : ¬ a < l.length) : kV l a = a := if_neg h
theorem qZ {l : List Int} {a m : Nat} (hm : l.length = m) (h : a ≤ m) : kV l a ≤ m := by unfold kV; split <;> omega
theorem yJ (l : List Int) (a : Nat) {n : Int} (hn : 1 ≤ n) : ((kZ l a n : Nat) : Int) < n := by
  by_cases h : a < l.length
  · rw [wM h hn]; exact kk2 _ (by omega)
  · rw [wN h]; omega
theorem wL (v n : Int) (h : 1 ≤ n) : 0 ≤ v % n ∧ v % n < n := ⟨kl4 _ (by omega), kk2 _ (by omega)⟩
@[reducible] def uY (x : Int) : Prop := ((-9223372036854775808) ≤ x ∧ x ≤ 9223372036854775807)
theorem k4m (v n : Int) (hn : 1 ≤ n ∧ n ≤ 4611686018427387904) : Fun 15 [iE v, iE n] (kC []) 0 (iV (v % n)) (kC []) 0 := by
  have ht : (0 - n < kd4 v n ∧ kd4 v n < n) := (by have h9 := lI v n (by omega); omega)
  refine Fun.mk (n := 15) Try.func15 rfl rfl (ka3 rfl) ?_
  intro cx hcx
  refine kK [.no] True [(0, iV v), (1, iV n)] [] 0 trivial ?_
  refine yZ (qC 4 []) (¬ (n : Int) = 0) [(1, iV n), (5, iV (kd4 v n))] zo ?_
  refine AW.seq ?_
  by_cases hx1 : ((kd4 v n) < 0)
  · refine zr [.no, .b true] [1, 5, 10] [] (((kd4 v n) < 0)) [(1, iV n), (5, iV (kd4 v n)), (10, bV true)] [] 0 zo ?_
    refine zt ?_
    refine b9 [.no, .no, .w, .no] (uY ((kd4 v n) + n)) [(5, iV ((kd4 v n) + n))] [] 0 ⟨by omega, by omega⟩ ?_
    refine yZ [.no, .no] True [(4, iV ((kd4 v n) + n))] trivial ?_
    refine AW.ret ?_
    exact kA (.inr rfl) [] (P := (((v % n) : Int) = ((kd4 v n) + n))) zk (by first | exact r7 zo (by assumption) | exact r6 zo (by assumption) | omega | rfl)
  · refine zr [.no, .b false] [1, 5, 10] [] (¬ ((kd4 v n) < 0)) [(1, iV n), (5, iV (kd4 v n)), (10, bV false)] [] 0 zo ?_
    refine uI ?_
    refine kK [.no, .no] True [(4, iV (kd4 v n))] [] 0 trivial ?_
    refine AW.ret ?_
    exact kA (.inr rfl) [] (P := (((v % n) : Int) = (kd4 v n))) zk (by first | exact r7 zo (by assumption) | exact r6 zo (by assumption) | omega | rfl)
theorem k4l (l : List Int) (m : Nat)  : Fun 7 [.c (.d (D.sl (dI .i64 l) m))] (kC []) 0 (rV 0 0) (kC [(0, some (51, .ds [D.sl (dI .i64 l) m, iD 0]))]) 1 := by
  refine Fun.mk (n := 6) Try.func7 rfl rfl (ka3 rfl) ?_
  intro cx hcx
  refine kK [.no] True [(0, sV .i64 l m)] [] 0 trivial ?_
  refine kK (qC 4 []) True [(2, rV 0 0)] [(0, some (51, .ds [dl l m, iD 0]))] 1 trivial ?_
  refine AW.ret ?_
  exact kA (.inr rfl) [] (P := (kU 0) ∧ (kS [dl l m, iD 0])) zk ⟨rfl, rfl⟩
theorem xC (l : List Int) (m a : Nat)  : Fun 37 [.c (.ptr 0 0)] (kC [(0, some (51, .ds [D.sl (dI .i64 l) m, iD ((a : Nat) : Int)]))]) 1 (kM (D.lit (.bool (decide (((a : Nat) : Int) < ((m : Nat) : Int)))))) (kC [(0, some (51, .ds [D.sl (dI .i64 l) m, iD ((a : Nat) : Int)]))]) 1 := by
  refine Fun.mk (n := 13) Try.func37 rfl rfl (ka3 rfl) ?_
  intro cx hcx
  refine kK [.no] True [(0, rV 0 0)] [(0, some (51, .ds [dl l m, uD a]))] 1 trivial ?_
  by_cases hx1 : (((a : Nat) : Int) < ((m : Nat) : Int))
  · refine zr (qC 9 [.b true, .no]) [2] [0] (((a : Int) < (m : Int))) [(2, bV true)] [(0, some (51, .ds [dl l m, uD a]))] 1 zo ?_
    refine AW.ret ?_
    exact kA (.inr rfl) [] (P := ((decide ((a : Int) < (m : Int))) = true) ∧ (kS [dl l m, uD a])) zk ⟨(by first | exact decide_eq_true zo | exact decide_eq_false zo), rfl⟩
  · refine zr (qC 9 [.b false, .no]) [2] [0] (¬ ((a : Int) < (m : Int))) [(2, bV false)] [(0, some (51, .ds [dl l m, uD a]))] 1 zo ?_
    refine AW.ret ?_
    exact kA (.inr rfl) [] (P := ((decide ((a : Int) < (m : Int))) = false) ∧ (kS [dl l m, uD a])) zk ⟨(by first | exact decide_eq_true zo | exact decide_eq_false zo), rfl⟩
theorem vX (l : List Int) (m a : Nat) (n : Int) (hm : List.length l = m) (hb : m ≤ 9223372036854775807) (ha : a ≤ m) (hn : 1 ≤ n ∧ n ≤ 4611686018427387904) : Fun 21 [.c (.ptr 0 0), iE n] (kC [(0, some (51, .ds [D.sl (dI .i64 l) m, iD ((a : Nat) : Int)]))]) 1 (iV (((kZ l a n) : Nat) : Int)) (kC [(0, some (51, .ds [D.sl (dI .i64 l) m, iD (((kV l a) : Nat) : Int)]))]) 1 := by
  refine Fun.mk (n := 28) Try.func21 rfl rfl (ka3 rfl) ?_
  intro cx hcx
  refine kK [.no] True [(0, rV 0 0), (1, iV n)] [(0, some (51, .ds [dl l m, uD a]))] 1 trivial ?_
  refine AW.seq ?_
  rcases Bool.eq_false_or_eq_true (decide (((a : Nat) : Int) < ((m : Nat) : Int))) with hx1 | hx1
  · have hx2 : (((a : Nat) : Int) < ((m : Nat) : Int)) := of_decide_eq_true hx1
    refine kK [.no, .call [0] (bV true) [(0, some (51, .ds [dl l m, uD a]))] 1 [] none, .no] (Fun 37 [.c (.ptr 0 0)] (kC [(0, some (51, .ds [dl l m, uD a]))]) 1 (bV true) (kC [(0, some (51, .ds [dl l m, uD a]))]) 1) [(0, rV 0 0), (1, iV n), (7, bV false)] [(0, some (51, .ds [dl l m, uD a]))] 1 (by have h0 := (xC l m a); rw [hx1] at h0; exact h0) ?_
    refine uI ?_
    refine kK (qC 4 [.w, .no, .no, .no]) (uY ((a : Int) + 1)) [(0, rV 0 0), (1, iV n)] [(0, some (51, .ds [dl l m, iD (↑a + 1)]))] 1 ⟨by omega, by omega⟩ ?_
    have hx3 : (((0 : Int) ≤ ((ka2 l ((a + 1) - 1) 0) % n)) ∧ (((ka2 l ((a + 1) - 1) 0) % n) < n)) := wL (ka2 l ((a + 1) - 1) 0) n zo
    refine yZ (qC 8 [.w, .n ((a + 1) - 1), .d (D.lit (.int .i64 (ka2 l ((a + 1) - 1) 0))), .no, .call [] (iV ((ka2 l ((a + 1) - 1) 0) % n)) [] 0 [] none, .no]) ((uY (((a : Int) + 1) - 1)) ∧ (((((a : Int) + 1) - 1) : Int) = ((((a + 1) - 1) : Nat) : Int)) ∧ (((a + 1) - 1) < m) ∧ ((List.drop ((a + 1) - 1) (dI .i64 l))[0]? = some (D.lit (.int .i64 (ka2 l ((a + 1) - 1) 0)))) ∧ (_)) [(4, iV ((ka2 l ((a + 1) - 1) 0) % n))] ⟨⟨by omega, by omega⟩, (by first | rfl | omega), zo, (qW _ _ _ (by first | omega | (simp only [kL, uO, List.length_append, List.length_cons, List.length_nil, List.length_take, List.length_drop, List.length_replicate, List.length_set, List.length_map, List.length_reverse, Nat.mul_one] <;> omega) | rfl)), (k4m (ka2 l ((a + 1) - 1) 0) n zo)⟩ ?_
    refine AW.ret ?_
    exact kA (.inr rfl) [] (P := (((kZ l a n : Int) : Int) = ((ka2 l ((a + 1) - 1) 0) % n)) ∧ (([dl l m, uD (kV l a)] : List D) = [dl l m, iD ((a : Int) + 1)])) zk ⟨(by first | exact wM zo zo | exact wN zo | (rw [nQ (by omega)]; rfl) | (rw [nR (by omega)]) | omega | rfl), (by first | (rw [nQ (by omega)]; rfl) | rw [nR (by omega)])⟩
  · have hx4 : ¬ (((a : Nat) : Int) < ((m : Nat) : Int)) := of_decide_eq_false hx1
    refine kK [.no, .call [0] (bV false) [(0, some (51, .ds [dl l m, uD a]))] 1 [] none, .no] (Fun 37 [.c (.ptr 0 0)] (kC [(0, some (51, .ds [dl l m, uD a]))]) 1 (bV false) (kC [(0, some (51, .ds [dl l m, uD a]))]) 1) [(0, rV 0 0), (1, iV n), (7, bV true)] [(0, some (51, .ds [dl l m, uD a]))] 1 (by have h0 := (xC l m a); rw [hx1] at h0; exact h0) ?_
    refine zt ?_
    refine yZ [.no] True [(4, iV 0)] trivial ?_
    refine AW.ret ?_
    exact kA (.inr rfl) [] (P := (((kZ l a n : Int) : Int) = 0) ∧ (([dl l m, uD (kV l a)] : List D) = [dl l m, uD a])) zk ⟨(by first | exact wM zo zo | exact wN zo | (rw [nQ (by omega)]; rfl) | (rw [nR (by omega)]) | omega | rfl), (by first | (rw [nQ (by omega)]; rfl) | rw [nR (by omega)])⟩
end Go.Proofs.Ytkjmlililpgamaa
