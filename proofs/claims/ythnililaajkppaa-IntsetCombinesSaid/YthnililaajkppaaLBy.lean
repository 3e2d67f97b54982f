/- Bytes, decks of numbers. No statement is proved here. -/
import Derived.Test.YthnililaajkppaaAmY
namespace Go.Proofs.Ythnililaajkppaa
open Go.ChangeShapes Go.WideShapes Go.ChangeAt Go.RowKit
set_option linter.unusedVariables false
set_option linter.unusedSimpArgs false


theorem getD_drop {l : List Int} {n j : Nat} : List.getD (List.drop n l) j 0 = List.getD l (n + j) 0 := by
  rw [List.getD_eq_getElem?_getD, List.getD_eq_getElem?_getD, List.getElem?_drop]
theorem getD_take {l : List Int} {n j : Nat} (h : j < n) : List.getD (List.take n l) j 0 = List.getD l j 0 := by
  rw [List.getD_eq_getElem?_getD, List.getD_eq_getElem?_getD, List.getElem?_take, if_pos h]
theorem getD_app_l {l m : List Int} {j : Nat} (h : j < l.length) : List.getD (l ++ m) j 0 = List.getD l j 0 := by
  rw [List.getD_eq_getElem?_getD, List.getD_eq_getElem?_getD, List.getElem?_append_left h]
theorem getD_app_r {l m : List Int} {j : Nat} (h : l.length ≤ j) : List.getD (l ++ m) j 0 = List.getD m (j - l.length) 0 := by
  rw [List.getD_eq_getElem?_getD, List.getD_eq_getElem?_getD, List.getElem?_append_right h]
/-- bytes -/
def Byt (l : List Int) : Prop := ∀ x ∈ l, 0 ≤ x ∧ x ≤ 255
theorem Byt.at {l : List Int} (h : Byt l) (j : Nat) (hj : j < List.length l) : 0 ≤ List.getD l j 0 ∧ List.getD l j 0 ≤ 255 := by
  rw [List.getD_eq_getElem?_getD, List.getElem?_eq_getElem hj]
  exact h _ (List.getElem_mem hj)
theorem Byt.nil : Byt [] := fun x h => by cases h
theorem Byt.cons {x : Int} {l : List Int} (h : 0 ≤ x ∧ x ≤ 255) (hl : Byt l) : Byt (x :: l) := fun y hy => by
  rcases List.mem_cons.1 hy with rfl | hy
  · exact h
  · exact hl y hy
theorem Byt.app {l m : List Int} (h : Byt l) (h2 : Byt m) : Byt (l ++ m) := fun x hx => (List.mem_append.1 hx).elim (h x) (h2 x)
theorem Byt.drop {l : List Int} (h : Byt l) (n : Nat) : Byt (List.drop n l) := fun x hx => h x (List.mem_of_mem_drop hx)
theorem Byt.take {l : List Int} (h : Byt l) (n : Nat) : Byt (List.take n l) := fun x hx => h x (List.mem_of_mem_take hx)
theorem Byt.rep (n : Nat) {x : Int} (h : 0 ≤ x ∧ x ≤ 255) : Byt (List.replicate n x) := fun y hy => by rw [(List.mem_replicate.1 hy).2]; exact h
theorem Byt.set {l : List Int} (h : Byt l) (n : Nat) {x : Int} (hx : 0 ≤ x ∧ x ≤ 255) : Byt (List.set l n x) := fun y hy => by
  rcases List.mem_or_eq_of_mem_set hy with hy | rfl
  · exact h y hy
  · exact hx
theorem Byt.of {l : List Int} (h : ∀ x ∈ l, 0 ≤ x ∧ x ≤ 255) : Byt l := h
/-- lists of bytes, as slices that are read alone -/
def bsD (xs : List (List Int)) : List D := xs.map fun l => D.sl (dI .u8 l) l.length
theorem bsD_len (xs : List (List Int)) : (bsD xs).length = xs.length := by unfold bsD; simp
theorem bsD_cat (xs : List (List Int)) (l : List Int) (n : Nat) (h : l.length = n) : bsD xs ++ [D.sl (dI .u8 l) n] = bsD (xs ++ [l]) := by subst h; unfold bsD; simp
theorem bsD_app (xs ys : List (List Int)) : bsD xs ++ bsD ys = bsD (xs ++ ys) := by unfold bsD; simp
theorem bsD_at (xs : List (List Int)) (i : Nat) (h : i < xs.length) : (List.drop i (bsD xs))[0]? = some (D.sl (dI .u8 (List.getD xs i [])) (List.getD xs i []).length) := by
  unfold bsD
  rw [List.getElem?_drop, Nat.add_zero, List.getElem?_map, List.getElem?_eq_getElem h, List.getD_eq_getElem?_getD, List.getElem?_eq_getElem h]; rfl
theorem bsD_part (xs : List (List Int)) (a n : Nat) : List.take n (List.drop a (bsD xs)) = bsD (List.take n (List.drop a xs)) := by unfold bsD; simp [List.map_drop, List.map_take]
theorem bsD_take (xs : List (List Int)) (n : Nat) : List.take (n * 1) (List.drop (0 * 1) (bsD xs)) = bsD (List.take n xs) := by unfold bsD; simp [List.map_take]
def BytL (xs : List (List Int)) : Prop := ∀ l ∈ xs, Byt l
theorem BytL.at {xs : List (List Int)} (h : BytL xs) (i : Nat) : Byt (List.getD xs i []) := by
  rw [List.getD_eq_getElem?_getD]
  cases e : xs[i]? with
  | none => exact Byt.nil
  | some l => exact h l (List.mem_of_getElem? e)
theorem BytL.nil : BytL [] := fun l h => by cases h
theorem BytL.snoc {xs : List (List Int)} {l : List Int} (h : BytL xs) (hl : Byt l) : BytL (xs ++ [l]) := fun m hm => (List.mem_append.1 hm).elim (h m) fun hm => by
  rw [List.mem_singleton.1 hm]; exact hl
theorem BytL.app {xs ys : List (List Int)} (h : BytL xs) (h2 : BytL ys) : BytL (xs ++ ys) := fun m hm => (List.mem_append.1 hm).elim (h m) (h2 m)
theorem BytL.take {xs : List (List Int)} (h : BytL xs) (n : Nat) : BytL (List.take n xs) := fun m hm => h m (List.mem_of_mem_take hm)
/-! texts told as bytes -/
theorem ofNat_inj {a b : Int} (ha : 0 ≤ a ∧ a ≤ 255) (hb : 0 ≤ b ∧ b ≤ 255) (h : UInt8.ofNat a.toNat = UInt8.ofNat b.toNat) : a = b := by
  have e := congrArg UInt8.toNat h
  rw [UInt8.toNat_ofNat', UInt8.toNat_ofNat'] at e
  omega
theorem map_inj8 : ∀ {a b : List Int}, Byt a → Byt b → a.map (fun n => UInt8.ofNat n.toNat) = b.map (fun n => UInt8.ofNat n.toNat) → a = b
  | [], [], _, _, _ => rfl
  | x :: xs, y :: ys, ha, hb, h => by
    rw [List.map_cons, List.map_cons, List.cons.injEq] at h
    rw [ofNat_inj (ha x (List.mem_cons_self ..)) (hb y (List.mem_cons_self ..)) h.1, map_inj8 (fun z hz => ha z (List.mem_cons_of_mem _ hz)) (fun z hz => hb z (List.mem_cons_of_mem _ hz)) h.2]
  | [], _ :: _, _, _, h => by cases h
  | _ :: _, [], _, _, h => by cases h
theorem str_y {a b : List Int} (h : a = b) : (ByteArray.toList (strOfNums a) == ByteArray.toList (strOfNums b)) = true := by subst h; simp
theorem str_n {a b : List Int} (ha : Byt a) (hb : Byt b) (h : ¬ a = b) : (ByteArray.toList (strOfNums a) == ByteArray.toList (strOfNums b)) = false := by
  rw [beq_eq_false_iff_ne]
  intro e
  rw [ByteArray.toList_eq, ByteArray.toList_eq, strOfNums_data, strOfNums_data] at e
  exact h (map_inj8 ha hb e)
/-! numbers of a deck -/
theorem tm_rng (v n : Int) (h : 1 ≤ n) : (-n < Int.tmod v n ∧ Int.tmod v n < n) := by
  constructor
  · have h1 := Int.lt_tmod_of_pos v (b := n) (by omega); omega
  · exact Int.tmod_lt_of_pos v (by omega)
theorem md_neg {v n : Int} (hn : 1 ≤ n) (h : Int.tmod v n < 0) : v % n = Int.tmod v n + n := by
  have h1 := tm_rng v n hn
  have h2 := Int.mul_tdiv_add_tmod v n
  have e : v % n = (Int.tmod v n + n) % n := by
    conv => lhs; rw [← h2]
    rw [Int.add_emod_right, Int.mul_add_emod_self_left]
  rw [e, Int.emod_eq_of_lt (by omega) (by omega)]
theorem md_pos {v n : Int} (hn : 1 ≤ n) (h : ¬ Int.tmod v n < 0) : v % n = Int.tmod v n := by
  have h1 := tm_rng v n hn
  have h2 := Int.mul_tdiv_add_tmod v n
  have e : v % n = (Int.tmod v n) % n := by
    conv => lhs; rw [← h2]
    rw [Int.mul_add_emod_self_left]
  rw [e, Int.emod_eq_of_lt (by omega) (by omega)]
/-- the numbers of a deck -/
def dkN (l : List Int) (a : Nat) (n : Int) : Nat := if a < l.length then (List.getD l a 0 % n).toNat else 0
def dkA (l : List Int) (a : Nat) : Nat := if a < l.length then a + 1 else a
theorem dkN_y {l : List Int} {a : Nat} {n : Int} (h : a < l.length) (hn : 1 ≤ n) : ((dkN l a n : Nat) : Int) = List.getD l a 0 % n := by
  unfold dkN; rw [if_pos h]; exact Int.toNat_of_nonneg (Int.emod_nonneg _ (by omega))
theorem dkN_n {l : List Int} {a : Nat} {n : Int} (h : ¬ a < l.length) : ((dkN l a n : Nat) : Int) = 0 := by unfold dkN; rw [if_neg h]; rfl
theorem dkA_y {l : List Int} {a : Nat} (h : a < l.length) : dkA l a = a + 1 := if_pos h
theorem dkA_n {l : List Int} {a : Nat} (h : ¬ a < l.length) : dkA l a = a := if_neg h
theorem dkA_le {l : List Int} {a m : Nat} (hm : l.length = m) (h : a ≤ m) : dkA l a ≤ m := by unfold dkA; split <;> omega
theorem dkN_lt (l : List Int) (a : Nat) {n : Int} (hn : 1 ≤ n) : ((dkN l a n : Nat) : Int) < n := by
  by_cases h : a < l.length
  · rw [dkN_y h hn]; exact Int.emod_lt_of_pos _ (by omega)
  · rw [dkN_n h]; omega
theorem emod_rng (v n : Int) (h : 1 ≤ n) : 0 ≤ v % n ∧ v % n < n := ⟨Int.emod_nonneg _ (by omega), Int.emod_lt_of_pos _ (by omega)⟩

end Go.Proofs.Ythnililaajkppaa
