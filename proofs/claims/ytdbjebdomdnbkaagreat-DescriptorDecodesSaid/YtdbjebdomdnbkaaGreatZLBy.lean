/- Bytes, decks of numbers. No statement is proved here. -/
import Derived.Test.YtdbjebdomdnbkaaGreatZAmV
namespace Go.Proofs.YtdbjebdomdnbkaaGreat
open Go.ChangeShapes Go.WideShapes Go.ChangeAt Go.RowKit
open List renaming getD → ka0, getD_eq_getElem?_getD → ka8, length → ka1, map_cons → ke4, mem_cons_of_mem → kb2, mem_cons_self → kb1, mem_of_mem_take → kg8, replicate → ka7, take → ka2
set_option linter.unusedVariables false
set_option linter.unusedSimpArgs false
set_option maxHeartbeats 4000000
set_option maxRecDepth 100000
theorem k1a {l : List Int} {n j : Nat} : ka0 (List.drop n l) j 0 = ka0 l (n + j) 0 := by
  rw [ka8, ka8, List.getElem?_drop]
theorem k19 {l : List Int} {n j : Nat} (h : j < n) : ka0 (ka2 n l) j 0 = ka0 l j 0 := by
  rw [ka8, ka8, List.getElem?_take, if_pos h]
theorem c5 {l m : List Int} {j : Nat} (h : j < l.length) : ka0 (l ++ m) j 0 = ka0 l j 0 := by
  rw [ka8, ka8, List.getElem?_append_left h]
theorem xM {l m : List Int} {j : Nat} (h : l.length ≤ j) : ka0 (l ++ m) j 0 = ka0 m (j - l.length) 0 := by
  rw [ka8, ka8, List.getElem?_append_right h]
def Byt (l : List Int) : Prop := ∀ x ∈ l, 0 ≤ x ∧ x ≤ 255
theorem Byt.at {l : List Int} (h : Byt l) (j : Nat) (hj : j < ka1 l) : 0 ≤ ka0 l j 0 ∧ ka0 l j 0 ≤ 255 := by
  rw [ka8, List.getElem?_eq_getElem hj]
  exact h _ (List.getElem_mem hj)
theorem Byt.nil : Byt [] := fun x h => by cases h
theorem Byt.cons {x : Int} {l : List Int} (h : 0 ≤ x ∧ x ≤ 255) (hl : Byt l) : Byt (x :: l) := fun y hy => by
  rcases List.mem_cons.1 hy with rfl | hy
  · exact h
  · exact hl y hy
theorem Byt.app {l m : List Int} (h : Byt l) (h2 : Byt m) : Byt (l ++ m) := fun x hx => (List.mem_append.1 hx).elim (h x) (h2 x)
theorem Byt.drop {l : List Int} (h : Byt l) (n : Nat) : Byt (List.drop n l) := fun x hx => h x (List.mem_of_mem_drop hx)
theorem Byt.take {l : List Int} (h : Byt l) (n : Nat) : Byt (ka2 n l) := fun x hx => h x (kg8 hx)
theorem Byt.rep (n : Nat) {x : Int} (h : 0 ≤ x ∧ x ≤ 255) : Byt (ka7 n x) := fun y hy => by rw [(List.mem_replicate.1 hy).2]; exact h
theorem Byt.set {l : List Int} (h : Byt l) (n : Nat) {x : Int} (hx : 0 ≤ x ∧ x ≤ 255) : Byt (List.set l n x) := fun y hy => by
  rcases List.mem_or_eq_of_mem_set hy with hy | rfl
  · exact h y hy
  · exact hx
theorem k71 {l : List Int} (h : ∀ x ∈ l, 0 ≤ x ∧ x ≤ 255) : Byt l := h
def bsD (xs : List (List Int)) : List D := xs.map fun l => D.sl (dI .u8 l) l.length
theorem aX (xs : List (List Int)) : (bsD xs).length = xs.length := by unfold bsD; simp
def BytL (xs : List (List Int)) : Prop := ∀ l ∈ xs, Byt l
theorem BytL.at {xs : List (List Int)} (h : BytL xs) (i : Nat) : Byt (ka0 xs i []) := by
  rw [ka8]
  cases e : xs[i]? with
  | none => exact Byt.nil
  | some l => exact h l (List.mem_of_getElem? e)
theorem BytL.nil : BytL [] := fun l h => by cases h
theorem BytL.snoc {xs : List (List Int)} {l : List Int} (h : BytL xs) (hl : Byt l) : BytL (xs ++ [l]) := fun m hm => (List.mem_append.1 hm).elim (h m) fun hm => by
  rw [List.mem_singleton.1 hm]; exact hl
theorem BytL.app {xs ys : List (List Int)} (h : BytL xs) (h2 : BytL ys) : BytL (xs ++ ys) := fun m hm => (List.mem_append.1 hm).elim (h m) (h2 m)
theorem BytL.take {xs : List (List Int)} (h : BytL xs) (n : Nat) : BytL (ka2 n xs) := fun m hm => h m (kg8 hm)
/-! texts told as bytes -/
theorem k14 {a b : Int} (ha : 0 ≤ a ∧ a ≤ 255) (hb : 0 ≤ b ∧ b ≤ 255) (h : UInt8.ofNat a.toNat = UInt8.ofNat b.toNat) : a = b := by
  have e := congrArg UInt8.toNat h
  rw [UInt8.toNat_ofNat', UInt8.toNat_ofNat'] at e
  omega
theorem sX : ∀ {a b : List Int}, Byt a → Byt b → a.map (fun n => UInt8.ofNat n.toNat) = b.map (fun n => UInt8.ofNat n.toNat) → a = b
  | [], [], _, _, _ => rfl
  | x :: xs, y :: ys, ha, hb, h => by
    rw [ke4, ke4, List.cons.injEq] at h
    rw [k14 (ha x (kb1 ..)) (hb y (kb1 ..)) h.1, sX (fun z hz => ha z (kb2 _ hz)) (fun z hz => hb z (kb2 _ hz)) h.2]
  | [], _ :: _, _, _, h => by cases h
  | _ :: _, [], _, _, h => by cases h
theorem u52 {a b : List Int} (h : a = b) : (ByteArray.toList (strOfNums a) == ByteArray.toList (strOfNums b)) = true := by subst h; simp
theorem u53 {a b : List Int} (ha : Byt a) (hb : Byt b) (h : ¬ a = b) : (ByteArray.toList (strOfNums a) == ByteArray.toList (strOfNums b)) = false := by
  rw [beq_eq_false_iff_ne]
  intro e
  rw [ByteArray.toList_eq, ByteArray.toList_eq, strOfNums_data, strOfNums_data] at e
  exact h (sX ha hb e)
@[reducible] def qB (x : Int) : Prop := ((-9223372036854775808) ≤ x ∧ x ≤ 9223372036854775807)
theorem k1y (m : Nat) (hb : m ≤ 10000000) : Fun 94 [.c (.d (D.lit (.slice none 0 0))), iE ((m : Nat) : Int)] (kD []) 0 (oV 0 0 0 1) (kD [(0, some (5, .ds ([] : List D)))]) 1 := by
  refine Fun.mk (n := 27) Tryz.func94 rfl rfl (Nat.le_of_ble_eq_true rfl) ?_
  intro cx hcx
  refine kG [.no] True [(0, nV), (1, uV m)] [] 0 trivial ?_
  refine AW.seq ?_
  refine kV [.no, .b false] (¬ ((m : Int) < 0)) [(0, nV), (1, uV m), (6, bV false)] zo ?_
  refine uM ?_
  refine AW.seq ?_
  refine kV (kJ 5 [.w, .w, .no]) ((qB (0 : Int)) ∧ (qB ((m : Int) - 0))) [(0, nV), (1, iV (↑m - 0))] ⟨⟨by omega, by omega⟩, ⟨by omega, by omega⟩⟩ ?_
  by_cases hx1 : ((0 : Int) < (((m : Nat) : Int) - 0))
  · refine zr [.no, .b true] [0, 1, 16] [] (((0 : Int) < ((m : Int) - 0))) [(0, nV), (1, iV (↑m - 0)), (16, bV true)] [] 0 zo ?_
    refine zt ?_
    refine aC (kJ 5 [.az (m - 0) 0 (dI .u8 (ka7 (m - 0) 0)), .no, .no, .mk 0 0 ([] : List D), .no]) ((kQ 0) ∧ ((0 : Int) = ((0 : Nat) : Int)) ∧ ((((m : Int) - 0) : Int) = (((m - 0) : Nat) : Int)) ∧ ((m - 0) * 1 ≤ 140737488355328) ∧ (ka7 (m - 0) (D.lit (.int .u8 0)) = dI .u8 (ka7 (m - 0) 0)) ∧ (kM 0) ∧ ((0 : Nat) ≤ (m - 0)) ∧ (ka2 (0 * 1) ((dI .u8 (ka7 (m - 0) 0)) : List D) = ([] : List D))) [(0, oV 0 0 0 1)] [(0, some (5, .ds ([] : List D)))] 1 ⟨rfl, zo, (by rfl), zo, (lQ _ _ _), rfl, zo, (by rw [Nat.zero_mul]; rfl)⟩ ?_
    refine kV [.no, .no] True [(4, oV 0 0 0 1)] trivial ?_
    refine AW.ret ?_
    exact kB (.inr rfl) [] (P := (kQ 0) ∧ (kQ 0) ∧ (kY ([] : List D))) zk ⟨rfl, rfl, rfl⟩
  · refine zr [.no, .b false] [0, 1, 16] [] (¬ ((0 : Int) < ((m : Int) - 0))) [(0, nV), (1, iV (↑m - 0)), (16, bV false)] [] 0 zo ?_
    refine uM ?_
    refine kG [.no, .no] True [(4, nV)] [] 0 trivial ?_
    refine AW.adoptS 4 1 5 rfl ?_
    refine AW.ret ?_
    exact kB (.inr rfl) [] (P := (kQ 0) ∧ (kQ 0) ∧ (kY ([] : List D))) zk ⟨rfl, rfl, rfl⟩
theorem mP {p : Prop} (h : p := by (simp only [aX, uF, List.length_append, List.length_cons, List.length_nil, List.length_take, List.length_drop, List.length_replicate, List.length_set, List.length_map, List.length_reverse, Nat.mul_one] <;> omega)) : p := h
theorem rN (la lb lc : List Int) (na nb nc : Nat) (ha : ka1 la = na) (hb : ka1 lb = nb) (hc : ka1 lc = nc) (ba : na ≤ 1000000) (bb : nb ≤ 1000000) (bc : nc ≤ 1000000) : Fun 81 [.c (.d (D.sl [D.sl (dI .u8 la) na, D.sl (dI .u8 lb) nb, D.sl (dI .u8 lc) nc] 3))] (kD []) 0 (oV 0 0 ((na + nb) + nc) 1) (kD [(0, some (5, .ds (dI .u8 ((la ++ lb) ++ lc))))]) 1 := by
  refine Fun.mk (n := 36) Tryz.func81 rfl rfl (Nat.le_of_ble_eq_true rfl) ?_
  intro cx hcx
  refine kG [.no] True [(0, qX [db la na, db lb nb, db lc nc] 3)] [] 0 trivial ?_
  refine kV [.no] True [(0, qX [db la na, db lb nb, db lc nc] 3), (3, iV 0)] trivial ?_
  refine AW.seq ?_
  refine kV [.no, .no, .no] True [(0, qX [db la na, db lb nb, db lc nc] 3), (3, iV 0), (9, qX [db la na, db lb nb, db lc nc] 3), (10, iV 3), (11, iV 0)] trivial ?_
  refine AW.block ?_
  refine AW.rounds 4 ?_
  refine AWr.s ?_
  refine kG [.b true] (((0 : Int) < 3)) [(0, qX [db la na, db lb nb, db lc nc] 3), (3, iV 0), (9, qX [db la na, db lb nb, db lc nc] 3), (10, iV 3), (11, iV 0), (12, bV true)] [] 0 zo ?_
  refine AW.seq ?_
  refine u1 ?_
  refine AW.seq ?_
  refine AW.block ?_
  refine kV [.n 0, .no, .no] ((kM 0) ∧ ((0 : Nat) < 3)) [(0, qX [db la na, db lb nb, db lc nc] 3), (3, iV 0), (5, sV .u8 la na), (9, qX [db la na, db lb nb, db lc nc] 3), (10, iV 3), (11, iV 0)] ⟨rfl, zo⟩ ?_
  refine kV [.no, .no, .no, .wi (na : Int), .no] ((qB (0 + (na : Int))) ∧ (((0 + (na : Int)) : Int) = (na : Int))) [(0, qX [db la na, db lb nb, db lc nc] 3), (3, uV na), (9, qX [db la na, db lb nb, db lc nc] 3), (10, iV 3), (11, iV 0)] ⟨⟨by omega, by omega⟩, zo⟩ ?_
  refine kV [.no, .b false] (¬ ((na : Int) < 0)) [(0, qX [db la na, db lb nb, db lc nc] 3), (3, uV na), (9, qX [db la na, db lb nb, db lc nc] 3), (10, iV 3), (11, iV 0), (20, bV false)] zo ?_
  refine uM ?_
  refine uG [.w, .no] (qB (1 : Int)) [(0, qX [db la na, db lb nb, db lc nc] 3), (3, uV na), (9, qX [db la na, db lb nb, db lc nc] 3), (10, iV 3), (11, iV 1)] ⟨by omega, by omega⟩ ?_
  refine AWr.s ?_
  refine kG [.b true] (((1 : Int) < 3)) [(0, qX [db la na, db lb nb, db lc nc] 3), (3, uV na), (9, qX [db la na, db lb nb, db lc nc] 3), (10, iV 3), (11, iV 1), (12, bV true)] [] 0 zo ?_
  refine AW.seq ?_
  refine u1 ?_
  refine AW.seq ?_
  refine AW.block ?_
  refine kV [.n 1, .no, .no] ((kM 1) ∧ ((1 : Nat) < 3)) [(0, qX [db la na, db lb nb, db lc nc] 3), (3, uV na), (5, sV .u8 lb nb), (9, qX [db la na, db lb nb, db lc nc] 3), (10, iV 3), (11, iV 1)] ⟨rfl, zo⟩ ?_
  refine kV [.no, .no, .no, .wi (((na + nb) : Nat) : Int), .no] ((qB ((na : Int) + (nb : Int))) ∧ ((((na : Int) + (nb : Int)) : Int) = (((na + nb) : Nat) : Int))) [(0, qX [db la na, db lb nb, db lc nc] 3), (3, uV (na + nb)), (9, qX [db la na, db lb nb, db lc nc] 3), (10, iV 3), (11, iV 1)] ⟨⟨by omega, by omega⟩, zo⟩ ?_
  refine kV [.no, .b false] (¬ ((((na + nb) : Nat) : Int) < 0)) [(0, qX [db la na, db lb nb, db lc nc] 3), (3, uV (na + nb)), (9, qX [db la na, db lb nb, db lc nc] 3), (10, iV 3), (11, iV 1), (20, bV false)] zo ?_
  refine uM ?_
  refine uG [.w, .no] (qB (2 : Int)) [(0, qX [db la na, db lb nb, db lc nc] 3), (3, uV (na + nb)), (9, qX [db la na, db lb nb, db lc nc] 3), (10, iV 3), (11, iV 2)] ⟨by omega, by omega⟩ ?_
  refine AWr.s ?_
  refine kG [.b true] (((2 : Int) < 3)) [(0, qX [db la na, db lb nb, db lc nc] 3), (3, uV (na + nb)), (9, qX [db la na, db lb nb, db lc nc] 3), (10, iV 3), (11, iV 2), (12, bV true)] [] 0 zo ?_
  refine AW.seq ?_
  refine u1 ?_
  refine AW.seq ?_
  refine AW.block ?_
  refine kV [.n 2, .no, .no] ((kM 2) ∧ ((2 : Nat) < 3)) [(0, qX [db la na, db lb nb, db lc nc] 3), (3, uV (na + nb)), (5, sV .u8 lc nc), (9, qX [db la na, db lb nb, db lc nc] 3), (10, iV 3), (11, iV 2)] ⟨rfl, zo⟩ ?_
  refine kV [.no, .no, .no, .wi ((((na + nb) + nc) : Nat) : Int), .no] ((qB ((((na + nb) : Nat) : Int) + (nc : Int))) ∧ ((((((na + nb) : Nat) : Int) + (nc : Int)) : Int) = ((((na + nb) + nc) : Nat) : Int))) [(0, qX [db la na, db lb nb, db lc nc] 3), (3, uV ((na + nb) + nc)), (9, qX [db la na, db lb nb, db lc nc] 3), (10, iV 3), (11, iV 2)] ⟨⟨by omega, by omega⟩, zo⟩ ?_
  refine kV [.no, .b false] (¬ (((((na + nb) + nc) : Nat) : Int) < 0)) [(0, qX [db la na, db lb nb, db lc nc] 3), (3, uV ((na + nb) + nc)), (9, qX [db la na, db lb nb, db lc nc] 3), (10, iV 3), (11, iV 2), (20, bV false)] zo ?_
  refine uM ?_
  refine uG [.w, .no] (qB (3 : Int)) [(0, qX [db la na, db lb nb, db lc nc] 3), (3, uV ((na + nb) + nc)), (9, qX [db la na, db lb nb, db lc nc] 3), (10, iV 3), (11, iV 3)] ⟨by omega, by omega⟩ ?_
  refine AWr.s ?_
  refine kG [.b false] (¬ ((3 : Int) < 3)) [(0, qX [db la na, db lb nb, db lc nc] 3), (3, uV ((na + nb) + nc)), (9, qX [db la na, db lb nb, db lc nc] 3), (10, iV 3), (11, iV 3), (12, bV false)] [] 0 zo ?_
  refine AW.seq ?_
  refine zf ?_
  refine AW.exit ?_
  refine kG [.no, .call [] (oV 0 0 0 1) [(0, some (5, .ds ([] : List D)))] 1 [some [D.lit (.bool true)]] none, .no] _ [(0, qX [db la na, db lb nb, db lc nc] 3), (6, oV 0 0 0 1)] [(0, some (5, .ds ([] : List D)))] 1 (k1y ((na + nb) + nc) zo) ?_
  refine AW.seq ?_
  refine kV [.no, .no, .no] True [(6, oV 0 0 0 1), (25, qX [db la na, db lb nb, db lc nc] 3), (26, iV 3), (27, iV 0)] trivial ?_
  refine AW.block ?_
  refine AW.rounds 4 ?_
  refine AWr.s ?_
  refine kG [.b true] (((0 : Int) < 3)) [(6, oV 0 0 0 1), (25, qX [db la na, db lb nb, db lc nc] 3), (26, iV 3), (27, iV 0), (28, bV true)] [(0, some (5, .ds ([] : List D)))] 1 zo ?_
  refine AW.seq ?_
  refine u1 ?_
  refine AW.seq ?_
  refine AW.block ?_
  refine kV [.n 0, .no, .no] ((kM 0) ∧ ((0 : Nat) < 3)) [(6, oV 0 0 0 1), (8, sV .u8 la na), (25, qX [db la na, db lb nb, db lc nc] 3), (26, iV 3), (27, iV 0)] ⟨rfl, zo⟩ ?_
  refine aC [.no, .no, .ap none (0 + na) (dI .u8 la), .no] (((dI .u8 la).length = na * 1) ∧ ((([] : List D) : List D).length = 0 * 1) ∧ ((0 + na) * 1 ≤ 140737488355328) ∧ ((0 : Nat) + na = (0 + na)) ∧ ((([] : List D) : List D) ++ (dI .u8 la) = (dI .u8 la))) [(6, oV 1 0 (0 + na) 1), (25, qX [db la na, db lb nb, db lc nc] 3), (26, iV 3), (27, iV 0)] [(1, some (5, .ds (dI .u8 la)))] 2 ⟨mP, mP, zo, zo, rfl⟩ ?_
  refine uG [.w, .no] (qB (1 : Int)) [(6, oV 1 0 (0 + na) 1), (25, qX [db la na, db lb nb, db lc nc] 3), (26, iV 3), (27, iV 1)] ⟨by omega, by omega⟩ ?_
  refine AWr.s ?_
  refine kG [.b true] (((1 : Int) < 3)) [(6, oV 1 0 (0 + na) 1), (25, qX [db la na, db lb nb, db lc nc] 3), (26, iV 3), (27, iV 1), (28, bV true)] [(1, some (5, .ds (dI .u8 la)))] 2 zo ?_
  refine AW.seq ?_
  refine u1 ?_
  refine AW.seq ?_
  refine AW.block ?_
  refine kV [.n 1, .no, .no] ((kM 1) ∧ ((1 : Nat) < 3)) [(6, oV 1 0 (0 + na) 1), (8, sV .u8 lb nb), (25, qX [db la na, db lb nb, db lc nc] 3), (26, iV 3), (27, iV 1)] ⟨rfl, zo⟩ ?_
  refine aC [.no, .no, .ap none ((0 + na) + nb) (dI .u8 (la ++ lb)), .no] (((dI .u8 lb).length = nb * 1) ∧ (((dI .u8 la) : List D).length = (0 + na) * 1) ∧ (((0 + na) + nb) * 1 ≤ 140737488355328) ∧ ((0 + na) + nb = ((0 + na) + nb)) ∧ (((dI .u8 la) : List D) ++ (dI .u8 lb) = (dI .u8 (la ++ lb)))) [(6, oV 2 0 ((0 + na) + nb) 1), (25, qX [db la na, db lb nb, db lc nc] 3), (26, iV 3), (27, iV 1)] [(2, some (5, .ds (dI .u8 (la ++ lb))))] 3 ⟨mP, mP, zo, zo, (uK .u8 la lb)⟩ ?_
  refine uG [.w, .no] (qB (2 : Int)) [(6, oV 2 0 ((0 + na) + nb) 1), (25, qX [db la na, db lb nb, db lc nc] 3), (26, iV 3), (27, iV 2)] ⟨by omega, by omega⟩ ?_
  refine AWr.s ?_
  refine kG [.b true] (((2 : Int) < 3)) [(6, oV 2 0 ((0 + na) + nb) 1), (25, qX [db la na, db lb nb, db lc nc] 3), (26, iV 3), (27, iV 2), (28, bV true)] [(2, some (5, .ds (dI .u8 (la ++ lb))))] 3 zo ?_
  refine AW.seq ?_
  refine u1 ?_
  refine AW.seq ?_
  refine AW.block ?_
  refine kV [.n 2, .no, .no] ((kM 2) ∧ ((2 : Nat) < 3)) [(6, oV 2 0 ((0 + na) + nb) 1), (8, sV .u8 lc nc), (25, qX [db la na, db lb nb, db lc nc] 3), (26, iV 3), (27, iV 2)] ⟨rfl, zo⟩ ?_
  refine aC [.no, .no, .ap none (((0 + na) + nb) + nc) (dI .u8 ((la ++ lb) ++ lc)), .no] (((dI .u8 lc).length = nc * 1) ∧ (((dI .u8 (la ++ lb)) : List D).length = ((0 + na) + nb) * 1) ∧ ((((0 + na) + nb) + nc) * 1 ≤ 140737488355328) ∧ (((0 + na) + nb) + nc = (((0 + na) + nb) + nc)) ∧ (((dI .u8 (la ++ lb)) : List D) ++ (dI .u8 lc) = (dI .u8 ((la ++ lb) ++ lc)))) [(6, oV 3 0 (((0 + na) + nb) + nc) 1), (25, qX [db la na, db lb nb, db lc nc] 3), (26, iV 3), (27, iV 2)] [(3, some (5, .ds (dI .u8 ((la ++ lb) ++ lc))))] 4 ⟨mP, mP, zo, zo, (uK .u8 (la ++ lb) lc)⟩ ?_
  refine uG [.w, .no] (qB (3 : Int)) [(6, oV 3 0 (((0 + na) + nb) + nc) 1), (25, qX [db la na, db lb nb, db lc nc] 3), (26, iV 3), (27, iV 3)] ⟨by omega, by omega⟩ ?_
  refine AWr.s ?_
  refine kG [.b false] (¬ ((3 : Int) < 3)) [(6, oV 3 0 (((0 + na) + nb) + nc) 1), (25, qX [db la na, db lb nb, db lc nc] 3), (26, iV 3), (27, iV 3), (28, bV false)] [(3, some (5, .ds (dI .u8 ((la ++ lb) ++ lc))))] 4 zo ?_
  refine AW.seq ?_
  refine zf ?_
  refine AW.exit ?_
  refine kG [.no, .no] True [(2, oV 3 0 (((0 + na) + nb) + nc) 1)] [(3, some (5, .ds (dI .u8 ((la ++ lb) ++ lc))))] 4 trivial ?_
  refine AW.ret ?_
  exact kB (.inr rfl) [(0, 3)] (P := (kQ 0) ∧ ((((na + nb) + nc) : Nat) = (((0 + na) + nb) + nc)) ∧ (kY (dI .u8 ((la ++ lb) ++ lc)))) zk ⟨rfl, zo, rfl⟩
end Go.Proofs.YtdbjebdomdnbkaaGreat
