/- Facts and their causes. No statement is proved here. -/
import Derived.Test.YtjhebkiahpocfaaLBy
namespace Go.Proofs.Ytjhebkiahpocfaa
open Go.ChangeShapes Go.WideShapes Go.ChangeAt Go.RowKit
set_option linter.unusedVariables false
set_option linter.unusedSimpArgs false

/- facts: lists of four numbers (kind, time, stream, device) -/
def fq (xs : List (List Int)) (i j : Nat) : Int := List.getD (List.getD xs i []) j 0
def fcR (l : List Int) : List D := [D.lit (.int .i64 (List.getD l 0 0)), D.lit (.int .i64 (List.getD l 1 0)), D.lit (.int .i64 (List.getD l 2 0)), D.lit (.int .u64 (List.getD l 3 0))]
def fcD : List (List Int) → List D
  | [] => []
  | l :: r => fcR l ++ fcD r
theorem fcD_len : ∀ xs : List (List Int), List.length (fcD xs) = List.length xs * 4
  | [] => rfl
  | l :: r => by show List.length (fcR l ++ fcD r) = (List.length r + 1) * 4; rw [List.length_append, fcD_len r]; show 4 + _ = _; omega
theorem fcD_app : ∀ a b : List (List Int), fcD (a ++ b) = fcD a ++ fcD b
  | [], _ => rfl
  | l :: r, b => by show fcR l ++ fcD (r ++ b) = fcR l ++ fcD r ++ fcD b; rw [fcD_app r b, List.append_assoc]
theorem fcD_drop : ∀ (i : Nat) (xs : List (List Int)), List.drop (i * 4) (fcD xs) = fcD (List.drop i xs)
  | 0, _ => rfl
  | i + 1, [] => by simp [fcD]
  | i + 1, l :: r => by
    show List.drop ((i + 1) * 4) (fcR l ++ fcD r) = fcD (List.drop i r)
    rw [show (i + 1) * 4 = 4 + i * 4 by omega, ← List.drop_drop, ← fcD_drop i r]; rfl
theorem fcD_take : ∀ (i : Nat) (xs : List (List Int)), List.take (i * 4) (fcD xs) = fcD (List.take i xs)
  | 0, _ => rfl
  | i + 1, [] => by simp [fcD]
  | i + 1, l :: r => by
    show List.take ((i + 1) * 4) (fcR l ++ fcD r) = fcR l ++ fcD (List.take i r)
    rw [← fcD_take i r, show (i + 1) * 4 = List.length (fcR l) + i * 4 by show _ = 4 + _; omega, List.take_length_add_append]
theorem fc_head {xs : List (List Int)} {i : Nat} (h : i < List.length xs) : fcD (List.drop i xs) = fcR (List.getD xs i []) ++ fcD (List.drop (i + 1) xs) := by
  have e : List.getD xs i [] = xs[i] := by rw [List.getD_eq_getElem?_getD, List.getElem?_eq_getElem h]; rfl
  rw [List.drop_eq_getElem_cons h, e]; rfl
theorem fc_at {xs : List (List Int)} {i : Nat} (h : i < List.length xs) : List.take 4 (List.drop (i * 4) (fcD xs)) = [D.lit (.int .i64 (fq xs i 0)), D.lit (.int .i64 (fq xs i 1)), D.lit (.int .i64 (fq xs i 2)), D.lit (.int .u64 (fq xs i 3))] := by
  rw [fcD_drop, fc_head h]; rfl
theorem fc_t0 {xs : List (List Int)} {i : Nat} (h : i < List.length xs) : (List.drop (i * 4 + 1) (fcD xs))[0]? = some (D.lit (.int .i64 (fq xs i 1))) := by
  rw [← List.drop_drop, fcD_drop, fc_head h]; rfl
theorem fc_t1 {xs : List (List Int)} {i : Nat} (h : i < List.length xs) : (fcD xs)[i * 4 + 1]? = some (D.lit (.int .i64 (fq xs i 1))) := by
  rw [← fc_t0 h, List.getElem?_drop]
theorem fcD_one (l : List Int) : fcD [l] = fcR l := List.append_nil _
/-- where a fact goes -/
def poF (xs : List (List Int)) (t : Int) : Nat → Nat
  | 0 => 0
  | i + 1 => if t < fq xs i 1 then poF xs t i else i + 1
theorem poF_le (xs : List (List Int)) (t : Int) : ∀ i, poF xs t i ≤ i
  | 0 => Nat.le_refl _
  | i + 1 => by
    have := poF_le xs t i
    show (if t < fq xs i 1 then poF xs t i else i + 1) ≤ i + 1
    split <;> omega
def inF (xs : List (List Int)) (l : List Int) : List (List Int) := List.take (poF xs (List.getD l 1 0) (List.length xs)) xs ++ [l] ++ List.drop (poF xs (List.getD l 1 0) (List.length xs)) xs
theorem inF_len (xs : List (List Int)) (l : List Int) : List.length (inF xs l) = List.length xs + 1 := by
  have := poF_le xs (List.getD l 1 0) (List.length xs)
  unfold inF
  rw [List.length_append, List.length_append, List.length_take, List.length_drop, List.length_singleton]; omega
/-- a glitch that is one -/
def glB (k t q s v f : Int) : Bool := decide ((((k = 1 ∨ k = 2) ∧ 1 ≤ s ∧ v = 0) ∨ ((k = 3 ∨ k = 4) ∧ 1 ≤ v ∧ s = 0)) ∧ 0 ≤ t ∧ t ≤ 1099511627776 ∧ 1 ≤ q ∧ q ≤ 4096 ∧ 1 ≤ f ∧ f ≤ 1099511627776)
/-- may a fact be a cause -/
def reB (fk fs fv k s v : Int) : Bool := decide (fk = 8 ∨ (fk = 1 ∧ k = 1 ∧ fs = s) ∨ (fk = 7 ∧ k = 2 ∧ fs = s) ∨ (fk = 2 ∧ (k = 1 ∨ k = 2) ∧ fs = s) ∨ (fk = 3 ∧ (k = 3 ∨ k = 4) ∧ fv = v))
def caP (xs : List (List Int)) (h k t q s v : Int) (i : Nat) : Prop := t - h ≤ fq xs i 1 ∧ fq xs i 1 ≤ t + q - 1 ∧ reB (fq xs i 0) (fq xs i 2) (fq xs i 3) k s v = true
instance (xs : List (List Int)) (h k t q s v : Int) (i : Nat) : Decidable (caP xs h k t q s v i) := by unfold caP; infer_instance
/-- the first cause among the first facts -/
def exI (xs : List (List Int)) (h k t q s v : Int) : Nat → Int
  | 0 => -1
  | i + 1 => if caP xs h k t q s v i ∧ (exI xs h k t q s v i < 0 ∨ fq xs i 1 < fq xs (exI xs h k t q s v i).toNat 1) then (i : Int) else exI xs h k t q s v i
theorem ex_rng (xs : List (List Int)) (h k t q s v : Int) : ∀ n, (exI xs h k t q s v n = -1 ∧ ∀ i, i < n → ¬ caP xs h k t q s v i) ∨ ∃ j : Nat, exI xs h k t q s v n = (j : Int) ∧ j < n ∧ caP xs h k t q s v j ∧ ∀ i, i < n → caP xs h k t q s v i → fq xs j 1 ≤ fq xs i 1
  | 0 => .inl ⟨rfl, fun i hi => absurd hi (Nat.not_lt_zero i)⟩
  | n + 1 => by
    have ih := ex_rng xs h k t q s v n
    have e : exI xs h k t q s v (n + 1) = if caP xs h k t q s v n ∧ (exI xs h k t q s v n < 0 ∨ fq xs n 1 < fq xs (exI xs h k t q s v n).toNat 1) then (n : Int) else exI xs h k t q s v n := rfl
    by_cases hc : caP xs h k t q s v n ∧ (exI xs h k t q s v n < 0 ∨ fq xs n 1 < fq xs (exI xs h k t q s v n).toNat 1)
    · rw [if_pos hc] at e
      refine .inr ⟨n, e, by omega, hc.1, fun i hi hci => ?_⟩
      by_cases hin : i = n
      · subst hin; exact Int.le_refl _
      · rcases ih with ⟨h1, h2⟩ | ⟨j, h1, h2, h3, h4⟩
        · exact absurd hci (h2 i (by omega))
        · have h5 := h4 i (by omega) hci
          rcases hc.2 with h6 | h6
          · omega
          · rw [h1, Int.toNat_natCast] at h6; omega
    · rw [if_neg hc] at e
      rcases ih with ⟨h1, h2⟩ | ⟨j, h1, h2, h3, h4⟩
      · refine .inl ⟨by rw [e, h1], fun i hi hci => ?_⟩
        by_cases hin : i = n
        · subst hin; exact hc ⟨hci, .inl (by omega)⟩
        · exact h2 i (by omega) hci
      · refine .inr ⟨j, by rw [e, h1], by omega, h3, fun i hi hci => ?_⟩
        by_cases hin : i = n
        · subst hin
          apply Classical.byContradiction
          intro h9
          exact hc ⟨hci, .inr (by rw [h1, Int.toNat_natCast]; omega)⟩
        · exact h4 i (by omega) hci
/-- what the law says of two horizons -/
theorem ex_two {xs : List (List Int)} {h h' k t q s v : Int} {n : Nat} (hh : h ≤ h') : exI xs h k t q s v n = -1 ∨ ∃ j j' : Nat, exI xs h k t q s v n = (j : Int) ∧ j < n ∧ caP xs h k t q s v j ∧ exI xs h' k t q s v n = (j' : Int) ∧ j' < n ∧ fq xs j' 1 ≤ fq xs j 1 := by
  rcases ex_rng xs h k t q s v n with ⟨h1, _⟩ | ⟨j, h1, h2, h3, h4⟩
  · exact .inl h1
  · have hc : caP xs h' k t q s v j := ⟨by have := h3.1; omega, h3.2⟩
    rcases ex_rng xs h' k t q s v n with ⟨_, g2⟩ | ⟨j', g1, g2, g3, g4⟩
    · exact absurd hc (g2 j h2)
    · exact .inr ⟨j, j', h1, h2, h3, g1, g2, g4 j h2 hc⟩
theorem fq_app {xs : List (List Int)} {l : List Int} {i j : Nat} (h : i < List.length xs) : fq (xs ++ [l]) i j = fq xs i j := by
  unfold fq
  rw [List.getD_eq_getElem?_getD (l := xs ++ [l]), List.getElem?_append_left h, ← List.getD_eq_getElem?_getD]
theorem ex_app {xs : List (List Int)} {l : List Int} {h k t q s v : Int} : ∀ n, n ≤ List.length xs → exI (xs ++ [l]) h k t q s v n = exI xs h k t q s v n
  | 0, _ => rfl
  | n + 1, hn => by
    have ih := ex_app (xs := xs) (l := l) (h := h) (k := k) (t := t) (q := q) (s := s) (v := v) n (by omega)
    show (if caP (xs ++ [l]) h k t q s v n ∧ (exI (xs ++ [l]) h k t q s v n < 0 ∨ fq (xs ++ [l]) n 1 < fq (xs ++ [l]) (exI (xs ++ [l]) h k t q s v n).toNat 1) then (n : Int) else exI (xs ++ [l]) h k t q s v n) = (if caP xs h k t q s v n ∧ (exI xs h k t q s v n < 0 ∨ fq xs n 1 < fq xs (exI xs h k t q s v n).toNat 1) then (n : Int) else exI xs h k t q s v n)
    rw [ih]
    have e1 : caP (xs ++ [l]) h k t q s v n ↔ caP xs h k t q s v n := by
      unfold caP
      have hn9 : n < List.length xs := by omega
      rw [fq_app hn9, fq_app hn9, fq_app hn9, fq_app hn9]
    have e2 : exI xs h k t q s v n < 0 ∨ fq (xs ++ [l]) (exI xs h k t q s v n).toNat 1 = fq xs (exI xs h k t q s v n).toNat 1 := by
      rcases ex_rng xs h k t q s v n with ⟨h1, _⟩ | ⟨j, h1, h2, _⟩
      · exact .inl (by omega)
      · exact .inr (by rw [h1, Int.toNat_natCast]; exact fq_app (xs := xs) (l := l) (i := j) (j := 1) (Nat.lt_of_lt_of_le h2 (Nat.le_of_succ_le hn)))
    rcases e2 with e2 | e2
    · have e3 : (exI xs h k t q s v n < 0 ∨ fq (xs ++ [l]) n 1 < fq (xs ++ [l]) (exI xs h k t q s v n).toNat 1) ↔ (exI xs h k t q s v n < 0 ∨ fq xs n 1 < fq xs (exI xs h k t q s v n).toNat 1) := ⟨fun _ => .inl e2, fun _ => .inl e2⟩
      simp only [e1, e3]
    · rw [e2, fq_app (show n < List.length xs by omega)]; simp only [e1]
/-- a fact behind the glitch changes nothing -/
theorem ex_late {xs : List (List Int)} {l : List Int} {h k t q s v : Int} {n : Nat} (hn : List.length xs = n) (hl : t + q ≤ List.getD l 1 0) : exI (xs ++ [l]) h k t q s v (n + 1) = exI xs h k t q s v n := by
  have e0 : exI (xs ++ [l]) h k t q s v (n + 1) = if caP (xs ++ [l]) h k t q s v n ∧ (exI (xs ++ [l]) h k t q s v n < 0 ∨ fq (xs ++ [l]) n 1 < fq (xs ++ [l]) (exI (xs ++ [l]) h k t q s v n).toNat 1) then (n : Int) else exI (xs ++ [l]) h k t q s v n := rfl
  have e1 : fq (xs ++ [l]) n 1 = List.getD l 1 0 := by
    unfold fq
    rw [List.getD_eq_getElem?_getD (l := xs ++ [l]), List.getElem?_append_right (by omega), hn, Nat.sub_self]; rfl
  rw [e0, if_neg, ex_app n (by omega)]
  rintro ⟨hc, _⟩
  have := hc.2.1
  rw [e1] at this; omega
/- facts out of a deck -/
def mkF (l : List Int) (a : Nat) : List Int := [1 + ((dkN l a 8 : Nat) : Int), ((dkN l (dkA l a) 14 : Nat) : Int), ((dkN l (dkA l (dkA l a)) 4 : Nat) : Int), ((dkN l (dkA l (dkA l (dkA l a))) 4 : Nat) : Int)]
def fcA (l : List Int) (a : Nat) : Nat → Nat
  | 0 => a
  | k + 1 => dkA l (dkA l (dkA l (dkA l (fcA l a k))))
def fcF (l : List Int) (a : Nat) : Nat → List (List Int)
  | 0 => []
  | k + 1 => inF (fcF l a k) (mkF l (fcA l a k))
theorem fcF_len (l : List Int) (a : Nat) : ∀ k, List.length (fcF l a k) = k
  | 0 => rfl
  | k + 1 => by show List.length (inF _ _) = _; rw [inF_len, fcF_len l a k]
theorem fcA_le {l : List Int} {a : Nat} (h : a ≤ List.length l) : ∀ k, fcA l a k ≤ List.length l
  | 0 => h
  | k + 1 => dkA_le rfl (dkA_le rfl (dkA_le rfl (dkA_le rfl (fcA_le h k))))
def fbP (f : Bool) (x : Int) : Prop := f = decide (x < 0)
theorem fb_n {x : Int} (h : 0 ≤ x) : fbP false x := (decide_eq_false (by omega)).symm
theorem fb_0 : fbP true (-1) := rfl
theorem fb_c {f : Bool} {x y : Int} (h : fbP f x) (e : y = x) : fbP f y := by rw [e]; exact h
theorem fb_t {x : Int} (h : fbP true x) : x < 0 := of_decide_eq_true h.symm
theorem fb_f {x : Int} (h : fbP false x) : 0 ≤ x := by have := of_decide_eq_false h.symm; omega
theorem ex_bd (xs : List (List Int)) (h k t q s v : Int) (n : Nat) : -1 ≤ exI xs h k t q s v n ∧ exI xs h k t q s v n < (n : Int) := by
  rcases ex_rng xs h k t q s v n with ⟨h1, _⟩ | ⟨j, h1, h2, _⟩ <;> omega
theorem ex_next (xs : List (List Int)) (h k t q s v : Int) (i : Nat) : (caP xs h k t q s v i ∧ (exI xs h k t q s v i < 0 ∨ fq xs i 1 < fq xs (Int.toNat (exI xs h k t q s v i)) 1) ∧ exI xs h k t q s v (i + 1) = (i : Int)) ∨ (¬ (caP xs h k t q s v i ∧ (exI xs h k t q s v i < 0 ∨ fq xs i 1 < fq xs (Int.toNat (exI xs h k t q s v i)) 1)) ∧ exI xs h k t q s v (i + 1) = exI xs h k t q s v i) := by
  by_cases hc : caP xs h k t q s v i ∧ (exI xs h k t q s v i < 0 ∨ fq xs i 1 < fq xs (Int.toNat (exI xs h k t q s v i)) 1)
  · exact .inl ⟨hc.1, hc.2, if_pos hc⟩
  · exact .inr ⟨hc, if_neg hc⟩
theorem ex_yes {xs : List (List Int)} {h k t q s v : Int} {i : Nat} (h1 : t - h ≤ fq xs i 1) (h2 : fq xs i 1 ≤ t + q - 1) (h3 : exI xs h k t q s v i < 0 ∨ fq xs i 1 < fq xs (Int.toNat (exI xs h k t q s v i)) 1) (h4 : reB (fq xs i 0) (fq xs i 2) (fq xs i 3) k s v = true) : exI xs h k t q s v (i + 1) = (i : Int) := if_pos ⟨⟨h1, h2, h4⟩, h3⟩
theorem ex_no {xs : List (List Int)} {h k t q s v : Int} {i : Nat} (hc : ¬ (t - h ≤ fq xs i 1 ∧ fq xs i 1 ≤ t + q - 1 ∧ (exI xs h k t q s v i < 0 ∨ fq xs i 1 < fq xs (Int.toNat (exI xs h k t q s v i)) 1))) : exI xs h k t q s v (i + 1) = exI xs h k t q s v i := if_neg fun h9 => hc ⟨h9.1.1, h9.1.2.1, h9.2⟩
theorem ex_nr {xs : List (List Int)} {h k t q s v : Int} {i : Nat} (h4 : reB (fq xs i 0) (fq xs i 2) (fq xs i 3) k s v = false) : exI xs h k t q s v (i + 1) = exI xs h k t q s v i := if_neg fun h9 => by rw [h9.1.2.2] at h4; cases h4
theorem po_s {xs : List (List Int)} {t : Int} {i : Nat} (hi : 1 ≤ i) (h : t < fq xs (i - 1) 1) : poF xs t (i - 1) = poF xs t i := by
  obtain ⟨j, rfl⟩ : ∃ j, i = j + 1 := ⟨i - 1, by omega⟩
  exact (if_pos h).symm
theorem in_fin {xs : List (List Int)} {f : List Int} {t : Int} {i n : Nat} (hn : List.length xs = n) (hpo : poF xs t i = poF xs t n) (hT : List.getD f 1 0 = t) (hex : i = 0 ∨ ¬ t < fq xs (i - 1) 1) : inF xs f = List.take i xs ++ [f] ++ List.take (n - i) (List.drop i xs) := by
  have e : poF xs t i = i := by
    rcases hex with rfl | h
    · rfl
    · match i, h with
      | 0, _ => rfl
      | j + 1, h => exact if_neg h
  have e2 : List.take (n - i) (List.drop i xs) = List.drop i xs := List.take_of_length_le (by rw [List.length_drop]; omega)
  unfold inF
  rw [hT, hn, ← hpo, e, e2]

set_option maxHeartbeats 4000000 in
set_option maxRecDepth 100000 in
theorem Z_source (k t q s v f : Int) (hv : 0 ≤ v) : Fun 33 [.agg [iC k, iC t, iC q, iC s, .d (D.lit (.int .u64 v)), iC f]] (toG []) 0 (.e (.c (.d (D.lit (.bool (decide (((k = 1 ∨ k = 2) ∧ 1 ≤ s ∧ v = 0) ∨ ((k = 3 ∨ k = 4) ∧ 1 ≤ v ∧ s = 0)))))))) (toG []) 0 := by
  refine Fun.mk (n := 27) Try.func33 rfl rfl (Nat.le_of_ble_eq_true rfl) ?_
  intro cx hcx
  refine AW.rgs [.no, .no] [1] [0] (P := True) (l' := [(1, rV 0 0)]) (g' := [(0, some (32, .ds [iD k, iD t, iD q, iD s, D.lit (.int .u64 v), iD f]))]) (nx' := 1) (by kernel_rfl) trivial ?_
  refine AW.seq ?_
  refine AW.rgs [.no, .no] [1, 4] [0] (P := True) (l' := [(1, rV 0 0), (4, iV k)]) (g' := [(0, some (32, .ds [iD k, iD t, iD q, iD s, D.lit (.int .u64 v), iD f]))]) (nx' := 1) (by kernel_rfl) trivial ?_
  refine AW.block ?_
  refine AW.seq ?_
  by_cases hx1 : (k = 1)
  · refine AW.rgs [.b true, .no] [1, 4, 5] [0] (P := ((k = 1))) (l' := [(1, rV 0 0), (4, iV k), (5, bV true)]) (g' := [(0, some (32, .ds [iD k, iD t, iD q, iD s, D.lit (.int .u64 v), iD f]))]) (nx' := 1) (by kernel_rfl) (by omega) ?_
    refine AW.cond_t (.tmp (Look.of rfl)) ?_
    refine AW.skip ?_
    refine AW.cond_t (.tmp (Look.of rfl)) ?_
    by_cases hx2 : ((1 : Int) ≤ s)
    · by_cases hx3 : (v = 0)
      · refine AW.rgs [.no, .no, .b true, .no, .no, .no, .b true, .no, .no] [2] [] (P := (((1 : Int) ≤ s)) ∧ ((v = 0))) (l' := [(2, bV true)]) (g' := []) (nx' := 1) (by kernel_rfl) ⟨(by omega), (by omega)⟩ ?_
        refine AW.ret ?_
        exact EndP.of (.inr rfl) [] (P := ((decide (((k = 1 ∨ k = 2) ∧ 1 ≤ s ∧ v = 0) ∨ ((k = 3 ∨ k = 4) ∧ 1 ≤ v ∧ s = 0))) = true)) (by kernel_rfl) (by first | exact decide_eq_true (by omega) | exact decide_eq_false (by omega))
      · refine AW.rgs [.no, .no, .b true, .no, .no, .no, .b false, .no, .no] [2] [] (P := (((1 : Int) ≤ s)) ∧ (¬ (v = 0))) (l' := [(2, bV false)]) (g' := []) (nx' := 1) (by kernel_rfl) ⟨(by omega), (by omega)⟩ ?_
        refine AW.ret ?_
        exact EndP.of (.inr rfl) [] (P := ((decide (((k = 1 ∨ k = 2) ∧ 1 ≤ s ∧ v = 0) ∨ ((k = 3 ∨ k = 4) ∧ 1 ≤ v ∧ s = 0))) = false)) (by kernel_rfl) (by first | exact decide_eq_true (by omega) | exact decide_eq_false (by omega))
    · refine AW.rgs [.no, .no, .b false, .no, .no, .no] [2] [] (P := (¬ ((1 : Int) ≤ s))) (l' := [(2, bV false)]) (g' := []) (nx' := 1) (by kernel_rfl) (by omega) ?_
      refine AW.ret ?_
      exact EndP.of (.inr rfl) [] (P := ((decide (((k = 1 ∨ k = 2) ∧ 1 ≤ s ∧ v = 0) ∨ ((k = 3 ∨ k = 4) ∧ 1 ≤ v ∧ s = 0))) = false)) (by kernel_rfl) (by first | exact decide_eq_true (by omega) | exact decide_eq_false (by omega))
  · refine AW.rgs [.b false, .no] [1, 4, 5] [0] (P := (¬ (k = 1))) (l' := [(1, rV 0 0), (4, iV k), (5, bV false)]) (g' := [(0, some (32, .ds [iD k, iD t, iD q, iD s, D.lit (.int .u64 v), iD f]))]) (nx' := 1) (by kernel_rfl) (by omega) ?_
    refine AW.cond_f (.tmp (Look.of rfl)) ?_
    by_cases hx4 : (k = 2)
    · refine AW.rg [.b true, .no] [1, 4, 5] [0] (P := ((k = 2))) (l' := [(1, rV 0 0), (4, iV k), (5, bV true)]) (g' := [(0, some (32, .ds [iD k, iD t, iD q, iD s, D.lit (.int .u64 v), iD f]))]) (nx' := 1) (by kernel_rfl) (by omega) ?_
      refine AW.cond_t (.tmp (Look.of rfl)) ?_
      by_cases hx5 : ((1 : Int) ≤ s)
      · by_cases hx6 : (v = 0)
        · refine AW.rgs [.no, .no, .b true, .no, .no, .no, .b true, .no, .no] [2] [] (P := (((1 : Int) ≤ s)) ∧ ((v = 0))) (l' := [(2, bV true)]) (g' := []) (nx' := 1) (by kernel_rfl) ⟨(by omega), (by omega)⟩ ?_
          refine AW.ret ?_
          exact EndP.of (.inr rfl) [] (P := ((decide (((k = 1 ∨ k = 2) ∧ 1 ≤ s ∧ v = 0) ∨ ((k = 3 ∨ k = 4) ∧ 1 ≤ v ∧ s = 0))) = true)) (by kernel_rfl) (by first | exact decide_eq_true (by omega) | exact decide_eq_false (by omega))
        · refine AW.rgs [.no, .no, .b true, .no, .no, .no, .b false, .no, .no] [2] [] (P := (((1 : Int) ≤ s)) ∧ (¬ (v = 0))) (l' := [(2, bV false)]) (g' := []) (nx' := 1) (by kernel_rfl) ⟨(by omega), (by omega)⟩ ?_
          refine AW.ret ?_
          exact EndP.of (.inr rfl) [] (P := ((decide (((k = 1 ∨ k = 2) ∧ 1 ≤ s ∧ v = 0) ∨ ((k = 3 ∨ k = 4) ∧ 1 ≤ v ∧ s = 0))) = false)) (by kernel_rfl) (by first | exact decide_eq_true (by omega) | exact decide_eq_false (by omega))
      · refine AW.rgs [.no, .no, .b false, .no, .no, .no] [2] [] (P := (¬ ((1 : Int) ≤ s))) (l' := [(2, bV false)]) (g' := []) (nx' := 1) (by kernel_rfl) (by omega) ?_
        refine AW.ret ?_
        exact EndP.of (.inr rfl) [] (P := ((decide (((k = 1 ∨ k = 2) ∧ 1 ≤ s ∧ v = 0) ∨ ((k = 3 ∨ k = 4) ∧ 1 ≤ v ∧ s = 0))) = false)) (by kernel_rfl) (by first | exact decide_eq_true (by omega) | exact decide_eq_false (by omega))
    · refine AW.rg [.b false, .no] [1, 4, 5] [0] (P := (¬ (k = 2))) (l' := [(1, rV 0 0), (4, iV k), (5, bV false)]) (g' := [(0, some (32, .ds [iD k, iD t, iD q, iD s, D.lit (.int .u64 v), iD f]))]) (nx' := 1) (by kernel_rfl) (by omega) ?_
      refine AW.cond_f (.tmp (Look.of rfl)) ?_
      refine AW.seq ?_
      by_cases hx7 : (k = 3)
      · refine AW.rgs [.b true, .no] [1, 4, 16] [0] (P := ((k = 3))) (l' := [(1, rV 0 0), (4, iV k), (16, bV true)]) (g' := [(0, some (32, .ds [iD k, iD t, iD q, iD s, D.lit (.int .u64 v), iD f]))]) (nx' := 1) (by kernel_rfl) (by omega) ?_
        refine AW.cond_t (.tmp (Look.of rfl)) ?_
        refine AW.skip ?_
        refine AW.cond_t (.tmp (Look.of rfl)) ?_
        by_cases hx8 : ((1 : Int) ≤ v)
        · by_cases hx9 : (s = 0)
          · refine AW.rgs [.no, .no, .b true, .no, .no, .no, .b true, .no, .no] [2] [] (P := (((1 : Int) ≤ v)) ∧ ((s = 0))) (l' := [(2, bV true)]) (g' := []) (nx' := 1) (by kernel_rfl) ⟨(by omega), (by omega)⟩ ?_
            refine AW.ret ?_
            exact EndP.of (.inr rfl) [] (P := ((decide (((k = 1 ∨ k = 2) ∧ 1 ≤ s ∧ v = 0) ∨ ((k = 3 ∨ k = 4) ∧ 1 ≤ v ∧ s = 0))) = true)) (by kernel_rfl) (by first | exact decide_eq_true (by omega) | exact decide_eq_false (by omega))
          · refine AW.rgs [.no, .no, .b true, .no, .no, .no, .b false, .no, .no] [2] [] (P := (((1 : Int) ≤ v)) ∧ (¬ (s = 0))) (l' := [(2, bV false)]) (g' := []) (nx' := 1) (by kernel_rfl) ⟨(by omega), (by omega)⟩ ?_
            refine AW.ret ?_
            exact EndP.of (.inr rfl) [] (P := ((decide (((k = 1 ∨ k = 2) ∧ 1 ≤ s ∧ v = 0) ∨ ((k = 3 ∨ k = 4) ∧ 1 ≤ v ∧ s = 0))) = false)) (by kernel_rfl) (by first | exact decide_eq_true (by omega) | exact decide_eq_false (by omega))
        · refine AW.rgs [.no, .no, .b false, .no, .no, .no] [2] [] (P := (¬ ((1 : Int) ≤ v))) (l' := [(2, bV false)]) (g' := []) (nx' := 1) (by kernel_rfl) (by omega) ?_
          refine AW.ret ?_
          exact EndP.of (.inr rfl) [] (P := ((decide (((k = 1 ∨ k = 2) ∧ 1 ≤ s ∧ v = 0) ∨ ((k = 3 ∨ k = 4) ∧ 1 ≤ v ∧ s = 0))) = false)) (by kernel_rfl) (by first | exact decide_eq_true (by omega) | exact decide_eq_false (by omega))
      · refine AW.rgs [.b false, .no] [1, 4, 16] [0] (P := (¬ (k = 3))) (l' := [(1, rV 0 0), (4, iV k), (16, bV false)]) (g' := [(0, some (32, .ds [iD k, iD t, iD q, iD s, D.lit (.int .u64 v), iD f]))]) (nx' := 1) (by kernel_rfl) (by omega) ?_
        refine AW.cond_f (.tmp (Look.of rfl)) ?_
        by_cases hx10 : (k = 4)
        · refine AW.rg [.b true, .no] [1, 16] [0] (P := ((k = 4))) (l' := [(1, rV 0 0), (16, bV true)]) (g' := [(0, some (32, .ds [iD k, iD t, iD q, iD s, D.lit (.int .u64 v), iD f]))]) (nx' := 1) (by kernel_rfl) (by omega) ?_
          refine AW.cond_t (.tmp (Look.of rfl)) ?_
          by_cases hx11 : ((1 : Int) ≤ v)
          · by_cases hx12 : (s = 0)
            · refine AW.rgs [.no, .no, .b true, .no, .no, .no, .b true, .no, .no] [2] [] (P := (((1 : Int) ≤ v)) ∧ ((s = 0))) (l' := [(2, bV true)]) (g' := []) (nx' := 1) (by kernel_rfl) ⟨(by omega), (by omega)⟩ ?_
              refine AW.ret ?_
              exact EndP.of (.inr rfl) [] (P := ((decide (((k = 1 ∨ k = 2) ∧ 1 ≤ s ∧ v = 0) ∨ ((k = 3 ∨ k = 4) ∧ 1 ≤ v ∧ s = 0))) = true)) (by kernel_rfl) (by first | exact decide_eq_true (by omega) | exact decide_eq_false (by omega))
            · refine AW.rgs [.no, .no, .b true, .no, .no, .no, .b false, .no, .no] [2] [] (P := (((1 : Int) ≤ v)) ∧ (¬ (s = 0))) (l' := [(2, bV false)]) (g' := []) (nx' := 1) (by kernel_rfl) ⟨(by omega), (by omega)⟩ ?_
              refine AW.ret ?_
              exact EndP.of (.inr rfl) [] (P := ((decide (((k = 1 ∨ k = 2) ∧ 1 ≤ s ∧ v = 0) ∨ ((k = 3 ∨ k = 4) ∧ 1 ≤ v ∧ s = 0))) = false)) (by kernel_rfl) (by first | exact decide_eq_true (by omega) | exact decide_eq_false (by omega))
          · refine AW.rgs [.no, .no, .b false, .no, .no, .no] [2] [] (P := (¬ ((1 : Int) ≤ v))) (l' := [(2, bV false)]) (g' := []) (nx' := 1) (by kernel_rfl) (by omega) ?_
            refine AW.ret ?_
            exact EndP.of (.inr rfl) [] (P := ((decide (((k = 1 ∨ k = 2) ∧ 1 ≤ s ∧ v = 0) ∨ ((k = 3 ∨ k = 4) ∧ 1 ≤ v ∧ s = 0))) = false)) (by kernel_rfl) (by first | exact decide_eq_true (by omega) | exact decide_eq_false (by omega))
        · refine AW.rg [.b false, .no] [1, 16] [0] (P := (¬ (k = 4))) (l' := [(1, rV 0 0), (16, bV false)]) (g' := [(0, some (32, .ds [iD k, iD t, iD q, iD s, D.lit (.int .u64 v), iD f]))]) (nx' := 1) (by kernel_rfl) (by omega) ?_
          refine AW.cond_f (.tmp (Look.of rfl)) ?_
          refine AW.skip ?_
          refine AW.rgs [.no] [2] [] (P := True) (l' := [(2, bV false)]) (g' := []) (nx' := 1) (by kernel_rfl) trivial ?_
          refine AW.ret ?_
          exact EndP.of (.inr rfl) [] (P := ((decide (((k = 1 ∨ k = 2) ∧ 1 ≤ s ∧ v = 0) ∨ ((k = 3 ∨ k = 4) ∧ 1 ≤ v ∧ s = 0))) = false)) (by kernel_rfl) (by first | exact decide_eq_true (by omega) | exact decide_eq_false (by omega))

set_option maxHeartbeats 4000000 in
set_option maxRecDepth 100000 in
theorem Z_Valid (k t q s v f : Int) (hv : 0 ≤ v) : Fun 27 [.agg [iC k, iC t, iC q, iC s, .d (D.lit (.int .u64 v)), iC f]] (toG []) 0 (.e (.c (.d (D.lit (.bool (glB k t q s v f)))))) (toG []) 0 := by
  refine Fun.mk (n := 35) Try.func27 rfl rfl (Nat.le_of_ble_eq_true rfl) ?_
  intro cx hcx
  refine AW.rgs [.no, .no] [1] [0] (P := True) (l' := [(1, rV 0 0)]) (g' := [(0, some (32, .ds [iD k, iD t, iD q, iD s, D.lit (.int .u64 v), iD f]))]) (nx' := 1) (by kernel_rfl) trivial ?_
  rcases Bool.eq_false_or_eq_true (decide (((k = 1 ∨ k = 2) ∧ 1 ≤ s ∧ v = 0) ∨ ((k = 3 ∨ k = 4) ∧ 1 ≤ v ∧ s = 0))) with hx1 | hx1
  · have hx2 : ((((k = 1) ∨ (k = 2)) ∧ (((1 : Int) ≤ s) ∧ (v = 0))) ∨ (((k = 3) ∨ (k = 4)) ∧ (((1 : Int) ≤ v) ∧ (s = 0)))) := of_decide_eq_true hx1
    by_cases hx3 : ((0 : Int) ≤ t)
    · by_cases hx4 : (t ≤ 1099511627776)
      · by_cases hx5 : ((1 : Int) ≤ q)
        · by_cases hx6 : (q ≤ 4096)
          · by_cases hx7 : ((1 : Int) ≤ f)
            · by_cases hx8 : (f ≤ 1099511627776)
              · refine AW.rgs [.no, .call [] (bV true) [] 0 [] none, .no, .no, .no, .b true, .no, .no, .no, .no, .b true, .no, .no, .no, .no, .b true, .no, .no, .no, .no, .b true, .no, .no, .no, .no, .b true, .no, .no, .no, .no, .b true, .no, .no] [2] [] (P := (Fun 33 [.agg [iC k, iC t, iC q, iC s, .d (D.lit (.int .u64 v)), iC f]] (toG []) 0 (bV true) (toG []) 0) ∧ (((0 : Int) ≤ t)) ∧ ((t ≤ 1099511627776)) ∧ (((1 : Int) ≤ q)) ∧ ((q ≤ 4096)) ∧ (((1 : Int) ≤ f)) ∧ ((f ≤ 1099511627776))) (l' := [(2, bV true)]) (g' := []) (nx' := 1) (by kernel_rfl) ⟨(by have h0 := (Z_source k t q s v f (by omega)); rw [hx1] at h0; exact h0), (by omega), (by omega), (by omega), (by omega), (by omega), (by omega)⟩ ?_
                refine AW.ret ?_
                exact EndP.of (.inr rfl) [] (P := ((glB k t q s v f) = true)) (by kernel_rfl) (by first | exact decide_eq_true (by omega) | exact decide_eq_false (by omega))
              · refine AW.rgs [.no, .call [] (bV true) [] 0 [] none, .no, .no, .no, .b true, .no, .no, .no, .no, .b true, .no, .no, .no, .no, .b true, .no, .no, .no, .no, .b true, .no, .no, .no, .no, .b true, .no, .no, .no, .no, .b false, .no, .no] [2] [] (P := (Fun 33 [.agg [iC k, iC t, iC q, iC s, .d (D.lit (.int .u64 v)), iC f]] (toG []) 0 (bV true) (toG []) 0) ∧ (((0 : Int) ≤ t)) ∧ ((t ≤ 1099511627776)) ∧ (((1 : Int) ≤ q)) ∧ ((q ≤ 4096)) ∧ (((1 : Int) ≤ f)) ∧ (¬ (f ≤ 1099511627776))) (l' := [(2, bV false)]) (g' := []) (nx' := 1) (by kernel_rfl) ⟨(by have h0 := (Z_source k t q s v f (by omega)); rw [hx1] at h0; exact h0), (by omega), (by omega), (by omega), (by omega), (by omega), (by omega)⟩ ?_
                refine AW.ret ?_
                exact EndP.of (.inr rfl) [] (P := ((glB k t q s v f) = false)) (by kernel_rfl) (by first | exact decide_eq_true (by omega) | exact decide_eq_false (by omega))
            · refine AW.rgs [.no, .call [] (bV true) [] 0 [] none, .no, .no, .no, .b true, .no, .no, .no, .no, .b true, .no, .no, .no, .no, .b true, .no, .no, .no, .no, .b true, .no, .no, .no, .no, .b false, .no, .no, .no, .no] [2] [] (P := (Fun 33 [.agg [iC k, iC t, iC q, iC s, .d (D.lit (.int .u64 v)), iC f]] (toG []) 0 (bV true) (toG []) 0) ∧ (((0 : Int) ≤ t)) ∧ ((t ≤ 1099511627776)) ∧ (((1 : Int) ≤ q)) ∧ ((q ≤ 4096)) ∧ (¬ ((1 : Int) ≤ f))) (l' := [(2, bV false)]) (g' := []) (nx' := 1) (by kernel_rfl) ⟨(by have h0 := (Z_source k t q s v f (by omega)); rw [hx1] at h0; exact h0), (by omega), (by omega), (by omega), (by omega), (by omega)⟩ ?_
              refine AW.ret ?_
              exact EndP.of (.inr rfl) [] (P := ((glB k t q s v f) = false)) (by kernel_rfl) (by first | exact decide_eq_true (by omega) | exact decide_eq_false (by omega))
          · refine AW.rgs [.no, .call [] (bV true) [] 0 [] none, .no, .no, .no, .b true, .no, .no, .no, .no, .b true, .no, .no, .no, .no, .b true, .no, .no, .no, .no, .b false, .no, .no, .no, .no, .no, .no] [2] [] (P := (Fun 33 [.agg [iC k, iC t, iC q, iC s, .d (D.lit (.int .u64 v)), iC f]] (toG []) 0 (bV true) (toG []) 0) ∧ (((0 : Int) ≤ t)) ∧ ((t ≤ 1099511627776)) ∧ (((1 : Int) ≤ q)) ∧ (¬ (q ≤ 4096))) (l' := [(2, bV false)]) (g' := []) (nx' := 1) (by kernel_rfl) ⟨(by have h0 := (Z_source k t q s v f (by omega)); rw [hx1] at h0; exact h0), (by omega), (by omega), (by omega), (by omega)⟩ ?_
            refine AW.ret ?_
            exact EndP.of (.inr rfl) [] (P := ((glB k t q s v f) = false)) (by kernel_rfl) (by first | exact decide_eq_true (by omega) | exact decide_eq_false (by omega))
        · refine AW.rgs [.no, .call [] (bV true) [] 0 [] none, .no, .no, .no, .b true, .no, .no, .no, .no, .b true, .no, .no, .no, .no, .b false, .no, .no, .no, .no, .no, .no, .no, .no] [2] [] (P := (Fun 33 [.agg [iC k, iC t, iC q, iC s, .d (D.lit (.int .u64 v)), iC f]] (toG []) 0 (bV true) (toG []) 0) ∧ (((0 : Int) ≤ t)) ∧ ((t ≤ 1099511627776)) ∧ (¬ ((1 : Int) ≤ q))) (l' := [(2, bV false)]) (g' := []) (nx' := 1) (by kernel_rfl) ⟨(by have h0 := (Z_source k t q s v f (by omega)); rw [hx1] at h0; exact h0), (by omega), (by omega), (by omega)⟩ ?_
          refine AW.ret ?_
          exact EndP.of (.inr rfl) [] (P := ((glB k t q s v f) = false)) (by kernel_rfl) (by first | exact decide_eq_true (by omega) | exact decide_eq_false (by omega))
      · refine AW.rgs [.no, .call [] (bV true) [] 0 [] none, .no, .no, .no, .b true, .no, .no, .no, .no, .b false, .no, .no, .no, .no, .no, .no, .no, .no, .no, .no] [2] [] (P := (Fun 33 [.agg [iC k, iC t, iC q, iC s, .d (D.lit (.int .u64 v)), iC f]] (toG []) 0 (bV true) (toG []) 0) ∧ (((0 : Int) ≤ t)) ∧ (¬ (t ≤ 1099511627776))) (l' := [(2, bV false)]) (g' := []) (nx' := 1) (by kernel_rfl) ⟨(by have h0 := (Z_source k t q s v f (by omega)); rw [hx1] at h0; exact h0), (by omega), (by omega)⟩ ?_
        refine AW.ret ?_
        exact EndP.of (.inr rfl) [] (P := ((glB k t q s v f) = false)) (by kernel_rfl) (by first | exact decide_eq_true (by omega) | exact decide_eq_false (by omega))
    · refine AW.rgs [.no, .call [] (bV true) [] 0 [] none, .no, .no, .no, .b false, .no, .no, .no, .no, .no, .no, .no, .no, .no, .no, .no, .no] [2] [] (P := (Fun 33 [.agg [iC k, iC t, iC q, iC s, .d (D.lit (.int .u64 v)), iC f]] (toG []) 0 (bV true) (toG []) 0) ∧ (¬ ((0 : Int) ≤ t))) (l' := [(2, bV false)]) (g' := []) (nx' := 1) (by kernel_rfl) ⟨(by have h0 := (Z_source k t q s v f (by omega)); rw [hx1] at h0; exact h0), (by omega)⟩ ?_
      refine AW.ret ?_
      exact EndP.of (.inr rfl) [] (P := ((glB k t q s v f) = false)) (by kernel_rfl) (by first | exact decide_eq_true (by omega) | exact decide_eq_false (by omega))
  · have hx9 : ¬ ((((k = 1) ∨ (k = 2)) ∧ (((1 : Int) ≤ s) ∧ (v = 0))) ∨ (((k = 3) ∨ (k = 4)) ∧ (((1 : Int) ≤ v) ∧ (s = 0)))) := of_decide_eq_false hx1
    refine AW.rgs [.no, .call [] (bV false) [] 0 [] none, .no, .no, .no, .no, .no, .no, .no, .no, .no, .no, .no, .no, .no] [2] [] (P := (Fun 33 [.agg [iC k, iC t, iC q, iC s, .d (D.lit (.int .u64 v)), iC f]] (toG []) 0 (bV false) (toG []) 0)) (l' := [(2, bV false)]) (g' := []) (nx' := 1) (by kernel_rfl) (by have h0 := (Z_source k t q s v f (by omega)); rw [hx1] at h0; exact h0) ?_
    refine AW.ret ?_
    exact EndP.of (.inr rfl) [] (P := ((glB k t q s v f) = false)) (by kernel_rfl) (by first | exact decide_eq_true (by omega) | exact decide_eq_false (by omega))

set_option maxHeartbeats 4000000 in
set_option maxRecDepth 100000 in
theorem Z_rValid (k t q s v f : Int) (hv : 0 ≤ v) : Fun 28 [.agg [iC k, iC t, iC q, iC s, .d (D.lit (.int .u64 v)), iC f]] (toG []) 0 (.e (.c (.d (D.lit (.bool (glB k t q s v f)))))) (toG []) 0 := by
  refine Fun.mk (n := 55) Try.func28 rfl rfl (Nat.le_of_ble_eq_true rfl) ?_
  intro cx hcx
  refine AW.rgs [.no, .no] [1] [0] (P := True) (l' := [(1, rV 0 0)]) (g' := [(0, some (32, .ds [iD k, iD t, iD q, iD s, D.lit (.int .u64 v), iD f]))]) (nx' := 1) (by kernel_rfl) trivial ?_
  refine AW.seq ?_
  by_cases hx1 : (t < 0)
  · refine AW.rgs [.no, .no, .b true, .no, .no, .no, .no, .no, .no, .no, .no, .no, .no] [1, 30] [0] (P := ((t < 0))) (l' := [(1, rV 0 0), (30, bV true)]) (g' := [(0, some (32, .ds [iD k, iD t, iD q, iD s, D.lit (.int .u64 v), iD f]))]) (nx' := 1) (by kernel_rfl) (by omega) ?_
    refine AW.cond_t (.tmp (Look.of rfl)) ?_
    refine AW.rgs [.no] [2] [] (P := True) (l' := [(2, bV false)]) (g' := []) (nx' := 1) (by kernel_rfl) trivial ?_
    refine AW.ret ?_
    exact EndP.of (.inr rfl) [] (P := ((glB k t q s v f) = false)) (by kernel_rfl) (by first | exact decide_eq_true (by omega) | exact decide_eq_false (by omega))
  · by_cases hx2 : ((1099511627776 : Int) < t)
    · refine AW.rgs [.no, .no, .b false, .no, .no, .no, .b true, .no, .no, .no, .no, .no, .no, .no, .no, .no] [1, 30] [0] (P := (¬ (t < 0)) ∧ (((1099511627776 : Int) < t))) (l' := [(1, rV 0 0), (30, bV true)]) (g' := [(0, some (32, .ds [iD k, iD t, iD q, iD s, D.lit (.int .u64 v), iD f]))]) (nx' := 1) (by kernel_rfl) ⟨(by omega), (by omega)⟩ ?_
      refine AW.cond_t (.tmp (Look.of rfl)) ?_
      refine AW.rgs [.no] [2] [] (P := True) (l' := [(2, bV false)]) (g' := []) (nx' := 1) (by kernel_rfl) trivial ?_
      refine AW.ret ?_
      exact EndP.of (.inr rfl) [] (P := ((glB k t q s v f) = false)) (by kernel_rfl) (by first | exact decide_eq_true (by omega) | exact decide_eq_false (by omega))
    · by_cases hx3 : (q < 1)
      · refine AW.rgs [.no, .no, .b false, .no, .no, .no, .b false, .no, .no, .no, .no, .b true, .no, .no, .no, .no, .no, .no, .no] [1, 30] [0] (P := (¬ (t < 0)) ∧ (¬ ((1099511627776 : Int) < t)) ∧ ((q < 1))) (l' := [(1, rV 0 0), (30, bV true)]) (g' := [(0, some (32, .ds [iD k, iD t, iD q, iD s, D.lit (.int .u64 v), iD f]))]) (nx' := 1) (by kernel_rfl) ⟨(by omega), (by omega), (by omega)⟩ ?_
        refine AW.cond_t (.tmp (Look.of rfl)) ?_
        refine AW.rgs [.no] [2] [] (P := True) (l' := [(2, bV false)]) (g' := []) (nx' := 1) (by kernel_rfl) trivial ?_
        refine AW.ret ?_
        exact EndP.of (.inr rfl) [] (P := ((glB k t q s v f) = false)) (by kernel_rfl) (by first | exact decide_eq_true (by omega) | exact decide_eq_false (by omega))
      · by_cases hx4 : ((4096 : Int) < q)
        · refine AW.rgs [.no, .no, .b false, .no, .no, .no, .b false, .no, .no, .no, .no, .b false, .no, .no, .no, .no, .b true, .no, .no, .no, .no, .no] [1, 30] [0] (P := (¬ (t < 0)) ∧ (¬ ((1099511627776 : Int) < t)) ∧ (¬ (q < 1)) ∧ (((4096 : Int) < q))) (l' := [(1, rV 0 0), (30, bV true)]) (g' := [(0, some (32, .ds [iD k, iD t, iD q, iD s, D.lit (.int .u64 v), iD f]))]) (nx' := 1) (by kernel_rfl) ⟨(by omega), (by omega), (by omega), (by omega)⟩ ?_
          refine AW.cond_t (.tmp (Look.of rfl)) ?_
          refine AW.rgs [.no] [2] [] (P := True) (l' := [(2, bV false)]) (g' := []) (nx' := 1) (by kernel_rfl) trivial ?_
          refine AW.ret ?_
          exact EndP.of (.inr rfl) [] (P := ((glB k t q s v f) = false)) (by kernel_rfl) (by first | exact decide_eq_true (by omega) | exact decide_eq_false (by omega))
        · by_cases hx5 : (f < 1)
          · refine AW.rgs [.no, .no, .b false, .no, .no, .no, .b false, .no, .no, .no, .no, .b false, .no, .no, .no, .no, .b false, .no, .no, .no, .no, .b true, .no, .no, .no] [1, 30] [0] (P := (¬ (t < 0)) ∧ (¬ ((1099511627776 : Int) < t)) ∧ (¬ (q < 1)) ∧ (¬ ((4096 : Int) < q)) ∧ ((f < 1))) (l' := [(1, rV 0 0), (30, bV true)]) (g' := [(0, some (32, .ds [iD k, iD t, iD q, iD s, D.lit (.int .u64 v), iD f]))]) (nx' := 1) (by kernel_rfl) ⟨(by omega), (by omega), (by omega), (by omega), (by omega)⟩ ?_
            refine AW.cond_t (.tmp (Look.of rfl)) ?_
            refine AW.rgs [.no] [2] [] (P := True) (l' := [(2, bV false)]) (g' := []) (nx' := 1) (by kernel_rfl) trivial ?_
            refine AW.ret ?_
            exact EndP.of (.inr rfl) [] (P := ((glB k t q s v f) = false)) (by kernel_rfl) (by first | exact decide_eq_true (by omega) | exact decide_eq_false (by omega))
          · by_cases hx6 : ((1099511627776 : Int) < f)
            · refine AW.rgs [.no, .no, .b false, .no, .no, .no, .b false, .no, .no, .no, .no, .b false, .no, .no, .no, .no, .b false, .no, .no, .no, .no, .b false, .no, .no, .no, .no, .b true, .no] [1, 30] [0] (P := (¬ (t < 0)) ∧ (¬ ((1099511627776 : Int) < t)) ∧ (¬ (q < 1)) ∧ (¬ ((4096 : Int) < q)) ∧ (¬ (f < 1)) ∧ (((1099511627776 : Int) < f))) (l' := [(1, rV 0 0), (30, bV true)]) (g' := [(0, some (32, .ds [iD k, iD t, iD q, iD s, D.lit (.int .u64 v), iD f]))]) (nx' := 1) (by kernel_rfl) ⟨(by omega), (by omega), (by omega), (by omega), (by omega), (by omega)⟩ ?_
              refine AW.cond_t (.tmp (Look.of rfl)) ?_
              refine AW.rgs [.no] [2] [] (P := True) (l' := [(2, bV false)]) (g' := []) (nx' := 1) (by kernel_rfl) trivial ?_
              refine AW.ret ?_
              exact EndP.of (.inr rfl) [] (P := ((glB k t q s v f) = false)) (by kernel_rfl) (by first | exact decide_eq_true (by omega) | exact decide_eq_false (by omega))
            · refine AW.rgs [.no, .no, .b false, .no, .no, .no, .b false, .no, .no, .no, .no, .b false, .no, .no, .no, .no, .b false, .no, .no, .no, .no, .b false, .no, .no, .no, .no, .b false, .no] [1, 30] [0] (P := (¬ (t < 0)) ∧ (¬ ((1099511627776 : Int) < t)) ∧ (¬ (q < 1)) ∧ (¬ ((4096 : Int) < q)) ∧ (¬ (f < 1)) ∧ (¬ ((1099511627776 : Int) < f))) (l' := [(1, rV 0 0), (30, bV false)]) (g' := [(0, some (32, .ds [iD k, iD t, iD q, iD s, D.lit (.int .u64 v), iD f]))]) (nx' := 1) (by kernel_rfl) ⟨(by omega), (by omega), (by omega), (by omega), (by omega), (by omega)⟩ ?_
              refine AW.cond_f (.tmp (Look.of rfl)) ?_
              refine AW.skip ?_
              refine AW.seq ?_
              refine AW.rgs [.no, .no] [1, 32] [0] (P := True) (l' := [(1, rV 0 0), (32, iV k)]) (g' := [(0, some (32, .ds [iD k, iD t, iD q, iD s, D.lit (.int .u64 v), iD f]))]) (nx' := 1) (by kernel_rfl) trivial ?_
              refine AW.block ?_
              refine AW.seq ?_
              by_cases hx7 : (k = 1)
              · refine AW.rgs [.b true, .no] [1, 32, 33] [0] (P := ((k = 1))) (l' := [(1, rV 0 0), (32, iV k), (33, bV true)]) (g' := [(0, some (32, .ds [iD k, iD t, iD q, iD s, D.lit (.int .u64 v), iD f]))]) (nx' := 1) (by kernel_rfl) (by omega) ?_
                refine AW.cond_t (.tmp (Look.of rfl)) ?_
                refine AW.skip ?_
                refine AW.cond_t (.tmp (Look.of rfl)) ?_
                by_cases hx8 : ((1 : Int) ≤ s)
                · by_cases hx9 : (v = 0)
                  · refine AW.rgs [.no, .no, .b true, .no, .no, .no, .b true, .no, .no] [2] [] (P := (((1 : Int) ≤ s)) ∧ ((v = 0))) (l' := [(2, bV true)]) (g' := []) (nx' := 1) (by kernel_rfl) ⟨(by omega), (by omega)⟩ ?_
                    refine AW.ret ?_
                    exact EndP.of (.inr rfl) [] (P := ((glB k t q s v f) = true)) (by kernel_rfl) (by first | exact decide_eq_true (by omega) | exact decide_eq_false (by omega))
                  · refine AW.rgs [.no, .no, .b true, .no, .no, .no, .b false, .no, .no] [2] [] (P := (((1 : Int) ≤ s)) ∧ (¬ (v = 0))) (l' := [(2, bV false)]) (g' := []) (nx' := 1) (by kernel_rfl) ⟨(by omega), (by omega)⟩ ?_
                    refine AW.ret ?_
                    exact EndP.of (.inr rfl) [] (P := ((glB k t q s v f) = false)) (by kernel_rfl) (by first | exact decide_eq_true (by omega) | exact decide_eq_false (by omega))
                · refine AW.rgs [.no, .no, .b false, .no, .no, .no] [2] [] (P := (¬ ((1 : Int) ≤ s))) (l' := [(2, bV false)]) (g' := []) (nx' := 1) (by kernel_rfl) (by omega) ?_
                  refine AW.ret ?_
                  exact EndP.of (.inr rfl) [] (P := ((glB k t q s v f) = false)) (by kernel_rfl) (by first | exact decide_eq_true (by omega) | exact decide_eq_false (by omega))
              · refine AW.rgs [.b false, .no] [1, 32, 33] [0] (P := (¬ (k = 1))) (l' := [(1, rV 0 0), (32, iV k), (33, bV false)]) (g' := [(0, some (32, .ds [iD k, iD t, iD q, iD s, D.lit (.int .u64 v), iD f]))]) (nx' := 1) (by kernel_rfl) (by omega) ?_
                refine AW.cond_f (.tmp (Look.of rfl)) ?_
                by_cases hx10 : (k = 2)
                · refine AW.rg [.b true, .no] [1, 32, 33] [0] (P := ((k = 2))) (l' := [(1, rV 0 0), (32, iV k), (33, bV true)]) (g' := [(0, some (32, .ds [iD k, iD t, iD q, iD s, D.lit (.int .u64 v), iD f]))]) (nx' := 1) (by kernel_rfl) (by omega) ?_
                  refine AW.cond_t (.tmp (Look.of rfl)) ?_
                  by_cases hx11 : ((1 : Int) ≤ s)
                  · by_cases hx12 : (v = 0)
                    · refine AW.rgs [.no, .no, .b true, .no, .no, .no, .b true, .no, .no] [2] [] (P := (((1 : Int) ≤ s)) ∧ ((v = 0))) (l' := [(2, bV true)]) (g' := []) (nx' := 1) (by kernel_rfl) ⟨(by omega), (by omega)⟩ ?_
                      refine AW.ret ?_
                      exact EndP.of (.inr rfl) [] (P := ((glB k t q s v f) = true)) (by kernel_rfl) (by first | exact decide_eq_true (by omega) | exact decide_eq_false (by omega))
                    · refine AW.rgs [.no, .no, .b true, .no, .no, .no, .b false, .no, .no] [2] [] (P := (((1 : Int) ≤ s)) ∧ (¬ (v = 0))) (l' := [(2, bV false)]) (g' := []) (nx' := 1) (by kernel_rfl) ⟨(by omega), (by omega)⟩ ?_
                      refine AW.ret ?_
                      exact EndP.of (.inr rfl) [] (P := ((glB k t q s v f) = false)) (by kernel_rfl) (by first | exact decide_eq_true (by omega) | exact decide_eq_false (by omega))
                  · refine AW.rgs [.no, .no, .b false, .no, .no, .no] [2] [] (P := (¬ ((1 : Int) ≤ s))) (l' := [(2, bV false)]) (g' := []) (nx' := 1) (by kernel_rfl) (by omega) ?_
                    refine AW.ret ?_
                    exact EndP.of (.inr rfl) [] (P := ((glB k t q s v f) = false)) (by kernel_rfl) (by first | exact decide_eq_true (by omega) | exact decide_eq_false (by omega))
                · refine AW.rg [.b false, .no] [1, 32, 33] [0] (P := (¬ (k = 2))) (l' := [(1, rV 0 0), (32, iV k), (33, bV false)]) (g' := [(0, some (32, .ds [iD k, iD t, iD q, iD s, D.lit (.int .u64 v), iD f]))]) (nx' := 1) (by kernel_rfl) (by omega) ?_
                  refine AW.cond_f (.tmp (Look.of rfl)) ?_
                  refine AW.seq ?_
                  by_cases hx13 : (k = 3)
                  · refine AW.rgs [.b true, .no] [1, 32, 44] [0] (P := ((k = 3))) (l' := [(1, rV 0 0), (32, iV k), (44, bV true)]) (g' := [(0, some (32, .ds [iD k, iD t, iD q, iD s, D.lit (.int .u64 v), iD f]))]) (nx' := 1) (by kernel_rfl) (by omega) ?_
                    refine AW.cond_t (.tmp (Look.of rfl)) ?_
                    refine AW.skip ?_
                    refine AW.cond_t (.tmp (Look.of rfl)) ?_
                    by_cases hx14 : ((1 : Int) ≤ v)
                    · by_cases hx15 : (s = 0)
                      · refine AW.rgs [.no, .no, .b true, .no, .no, .no, .b true, .no, .no] [2] [] (P := (((1 : Int) ≤ v)) ∧ ((s = 0))) (l' := [(2, bV true)]) (g' := []) (nx' := 1) (by kernel_rfl) ⟨(by omega), (by omega)⟩ ?_
                        refine AW.ret ?_
                        exact EndP.of (.inr rfl) [] (P := ((glB k t q s v f) = true)) (by kernel_rfl) (by first | exact decide_eq_true (by omega) | exact decide_eq_false (by omega))
                      · refine AW.rgs [.no, .no, .b true, .no, .no, .no, .b false, .no, .no] [2] [] (P := (((1 : Int) ≤ v)) ∧ (¬ (s = 0))) (l' := [(2, bV false)]) (g' := []) (nx' := 1) (by kernel_rfl) ⟨(by omega), (by omega)⟩ ?_
                        refine AW.ret ?_
                        exact EndP.of (.inr rfl) [] (P := ((glB k t q s v f) = false)) (by kernel_rfl) (by first | exact decide_eq_true (by omega) | exact decide_eq_false (by omega))
                    · refine AW.rgs [.no, .no, .b false, .no, .no, .no] [2] [] (P := (¬ ((1 : Int) ≤ v))) (l' := [(2, bV false)]) (g' := []) (nx' := 1) (by kernel_rfl) (by omega) ?_
                      refine AW.ret ?_
                      exact EndP.of (.inr rfl) [] (P := ((glB k t q s v f) = false)) (by kernel_rfl) (by first | exact decide_eq_true (by omega) | exact decide_eq_false (by omega))
                  · refine AW.rgs [.b false, .no] [1, 32, 44] [0] (P := (¬ (k = 3))) (l' := [(1, rV 0 0), (32, iV k), (44, bV false)]) (g' := [(0, some (32, .ds [iD k, iD t, iD q, iD s, D.lit (.int .u64 v), iD f]))]) (nx' := 1) (by kernel_rfl) (by omega) ?_
                    refine AW.cond_f (.tmp (Look.of rfl)) ?_
                    by_cases hx16 : (k = 4)
                    · refine AW.rg [.b true, .no] [1, 44] [0] (P := ((k = 4))) (l' := [(1, rV 0 0), (44, bV true)]) (g' := [(0, some (32, .ds [iD k, iD t, iD q, iD s, D.lit (.int .u64 v), iD f]))]) (nx' := 1) (by kernel_rfl) (by omega) ?_
                      refine AW.cond_t (.tmp (Look.of rfl)) ?_
                      by_cases hx17 : ((1 : Int) ≤ v)
                      · by_cases hx18 : (s = 0)
                        · refine AW.rgs [.no, .no, .b true, .no, .no, .no, .b true, .no, .no] [2] [] (P := (((1 : Int) ≤ v)) ∧ ((s = 0))) (l' := [(2, bV true)]) (g' := []) (nx' := 1) (by kernel_rfl) ⟨(by omega), (by omega)⟩ ?_
                          refine AW.ret ?_
                          exact EndP.of (.inr rfl) [] (P := ((glB k t q s v f) = true)) (by kernel_rfl) (by first | exact decide_eq_true (by omega) | exact decide_eq_false (by omega))
                        · refine AW.rgs [.no, .no, .b true, .no, .no, .no, .b false, .no, .no] [2] [] (P := (((1 : Int) ≤ v)) ∧ (¬ (s = 0))) (l' := [(2, bV false)]) (g' := []) (nx' := 1) (by kernel_rfl) ⟨(by omega), (by omega)⟩ ?_
                          refine AW.ret ?_
                          exact EndP.of (.inr rfl) [] (P := ((glB k t q s v f) = false)) (by kernel_rfl) (by first | exact decide_eq_true (by omega) | exact decide_eq_false (by omega))
                      · refine AW.rgs [.no, .no, .b false, .no, .no, .no] [2] [] (P := (¬ ((1 : Int) ≤ v))) (l' := [(2, bV false)]) (g' := []) (nx' := 1) (by kernel_rfl) (by omega) ?_
                        refine AW.ret ?_
                        exact EndP.of (.inr rfl) [] (P := ((glB k t q s v f) = false)) (by kernel_rfl) (by first | exact decide_eq_true (by omega) | exact decide_eq_false (by omega))
                    · refine AW.rg [.b false, .no] [1, 44] [0] (P := (¬ (k = 4))) (l' := [(1, rV 0 0), (44, bV false)]) (g' := [(0, some (32, .ds [iD k, iD t, iD q, iD s, D.lit (.int .u64 v), iD f]))]) (nx' := 1) (by kernel_rfl) (by omega) ?_
                      refine AW.cond_f (.tmp (Look.of rfl)) ?_
                      refine AW.skip ?_
                      refine AW.rgs [.no] [2] [] (P := True) (l' := [(2, bV false)]) (g' := []) (nx' := 1) (by kernel_rfl) trivial ?_
                      refine AW.ret ?_
                      exact EndP.of (.inr rfl) [] (P := ((glB k t q s v f) = false)) (by kernel_rfl) (by first | exact decide_eq_true (by omega) | exact decide_eq_false (by omega))

set_option maxHeartbeats 4000000 in
set_option maxRecDepth 100000 in
theorem Z_Rel (fk ft fs fv k t q s v f : Int) (hv : 0 ≤ v) (hg : glB k t q s v f = true) : Fun 16 [.agg [iC fk, iC ft, iC fs, .d (D.lit (.int .u64 fv))], .agg [iC k, iC t, iC q, iC s, .d (D.lit (.int .u64 v)), iC f]] (toG []) 0 (.e (.c (.d (D.lit (.bool (reB fk fs fv k s v)))))) (toG []) 0 := by
  have hgk : k = 1 ∨ k = 2 ∨ k = 3 ∨ k = 4 := by have h9 := of_decide_eq_true hg; omega
  refine Fun.mk (n := 70) Try.func16 rfl rfl (Nat.le_of_ble_eq_true rfl) ?_
  intro cx hcx
  refine AW.rgs [.no, .no, .no] [2, 3] [0, 1] (P := True) (l' := [(2, rV 0 0), (3, rV 1 0)]) (g' := [(0, some (45, .ds [iD fk, iD ft, iD fs, D.lit (.int .u64 fv)])), (1, some (32, .ds [iD k, iD t, iD q, iD s, D.lit (.int .u64 v), iD f]))]) (nx' := 2) (by kernel_rfl) trivial ?_
  refine AW.seq ?_
  refine AW.rgs [.no, .call [] (bV true) [] 0 [] none, .no] [2, 3, 7] [0, 1] (P := (Fun 27 [.agg [iC k, iC t, iC q, iC s, .d (D.lit (.int .u64 v)), iC f]] (toG []) 0 (bV true) (toG []) 0)) (l' := [(2, rV 0 0), (3, rV 1 0), (7, bV false)]) (g' := [(0, some (45, .ds [iD fk, iD ft, iD fs, D.lit (.int .u64 fv)])), (1, some (32, .ds [iD k, iD t, iD q, iD s, D.lit (.int .u64 v), iD f]))]) (nx' := 2) (by kernel_rfl) (by have h0 := (Z_Valid k t q s v f (by omega)); rw [hg] at h0; exact h0) ?_
  refine AW.cond_f (.tmp (Look.of rfl)) ?_
  refine AW.skip ?_
  refine AW.seq ?_
  refine AW.rgs [.no, .no] [2, 3, 9] [0, 1] (P := True) (l' := [(2, rV 0 0), (3, rV 1 0), (9, iV fk)]) (g' := [(0, some (45, .ds [iD fk, iD ft, iD fs, D.lit (.int .u64 fv)])), (1, some (32, .ds [iD k, iD t, iD q, iD s, D.lit (.int .u64 v), iD f]))]) (nx' := 2) (by kernel_rfl) trivial ?_
  refine AW.block ?_
  by_cases hx1 : (fk = 8)
  · refine AW.rgs [.b true, .no] [2, 3, 9, 10] [0, 1] (P := ((fk = 8))) (l' := [(2, rV 0 0), (3, rV 1 0), (9, iV fk), (10, bV true)]) (g' := [(0, some (45, .ds [iD fk, iD ft, iD fs, D.lit (.int .u64 fv)])), (1, some (32, .ds [iD k, iD t, iD q, iD s, D.lit (.int .u64 v), iD f]))]) (nx' := 2) (by kernel_rfl) (by omega) ?_
    refine AW.cond_t (.tmp (Look.of rfl)) ?_
    refine AW.rgs [.no] [4] [] (P := True) (l' := [(4, bV true)]) (g' := []) (nx' := 2) (by kernel_rfl) trivial ?_
    refine AW.ret ?_
    exact EndP.of (.inr rfl) [] (P := ((reB fk fs fv k s v) = true)) (by kernel_rfl) (by first | exact decide_eq_true (by omega) | exact decide_eq_false (by omega))
  · refine AW.rgs [.b false, .no] [2, 3, 9, 10] [0, 1] (P := (¬ (fk = 8))) (l' := [(2, rV 0 0), (3, rV 1 0), (9, iV fk), (10, bV false)]) (g' := [(0, some (45, .ds [iD fk, iD ft, iD fs, D.lit (.int .u64 fv)])), (1, some (32, .ds [iD k, iD t, iD q, iD s, D.lit (.int .u64 v), iD f]))]) (nx' := 2) (by kernel_rfl) (by omega) ?_
    refine AW.cond_f (.tmp (Look.of rfl)) ?_
    by_cases hx2 : (fk = 1)
    · refine AW.rgs [.b true, .no] [2, 3, 9, 12] [0, 1] (P := ((fk = 1))) (l' := [(2, rV 0 0), (3, rV 1 0), (9, iV fk), (12, bV true)]) (g' := [(0, some (45, .ds [iD fk, iD ft, iD fs, D.lit (.int .u64 fv)])), (1, some (32, .ds [iD k, iD t, iD q, iD s, D.lit (.int .u64 v), iD f]))]) (nx' := 2) (by kernel_rfl) (by omega) ?_
      refine AW.cond_t (.tmp (Look.of rfl)) ?_
      by_cases hx3 : (k = 1)
      · by_cases hx4 : (fs = s)
        · refine AW.rgs [.no, .no, .b true, .no, .no, .no, .no, .no, .b true, .no, .no] [4] [] (P := ((k = 1)) ∧ ((fs = s))) (l' := [(4, bV true)]) (g' := []) (nx' := 2) (by kernel_rfl) ⟨(by omega), (by omega)⟩ ?_
          refine AW.ret ?_
          exact EndP.of (.inr rfl) [] (P := ((reB fk fs fv k s v) = true)) (by kernel_rfl) (by first | exact decide_eq_true (by omega) | exact decide_eq_false (by omega))
        · refine AW.rgs [.no, .no, .b true, .no, .no, .no, .no, .no, .b false, .no, .no] [4] [] (P := ((k = 1)) ∧ (¬ (fs = s))) (l' := [(4, bV false)]) (g' := []) (nx' := 2) (by kernel_rfl) ⟨(by omega), (by omega)⟩ ?_
          refine AW.ret ?_
          exact EndP.of (.inr rfl) [] (P := ((reB fk fs fv k s v) = false)) (by kernel_rfl) (by first | exact decide_eq_true (by omega) | exact decide_eq_false (by omega))
      · refine AW.rgs [.no, .no, .b false, .no, .no, .no] [4] [] (P := (¬ (k = 1))) (l' := [(4, bV false)]) (g' := []) (nx' := 2) (by kernel_rfl) (by omega) ?_
        refine AW.ret ?_
        exact EndP.of (.inr rfl) [] (P := ((reB fk fs fv k s v) = false)) (by kernel_rfl) (by first | exact decide_eq_true (by omega) | exact decide_eq_false (by omega))
    · refine AW.rgs [.b false, .no] [2, 3, 9, 12] [0, 1] (P := (¬ (fk = 1))) (l' := [(2, rV 0 0), (3, rV 1 0), (9, iV fk), (12, bV false)]) (g' := [(0, some (45, .ds [iD fk, iD ft, iD fs, D.lit (.int .u64 fv)])), (1, some (32, .ds [iD k, iD t, iD q, iD s, D.lit (.int .u64 v), iD f]))]) (nx' := 2) (by kernel_rfl) (by omega) ?_
      refine AW.cond_f (.tmp (Look.of rfl)) ?_
      by_cases hx5 : (fk = 7)
      · refine AW.rgs [.b true, .no] [2, 3, 9, 24] [0, 1] (P := ((fk = 7))) (l' := [(2, rV 0 0), (3, rV 1 0), (9, iV fk), (24, bV true)]) (g' := [(0, some (45, .ds [iD fk, iD ft, iD fs, D.lit (.int .u64 fv)])), (1, some (32, .ds [iD k, iD t, iD q, iD s, D.lit (.int .u64 v), iD f]))]) (nx' := 2) (by kernel_rfl) (by omega) ?_
        refine AW.cond_t (.tmp (Look.of rfl)) ?_
        by_cases hx6 : (k = 2)
        · by_cases hx7 : (fs = s)
          · refine AW.rgs [.no, .no, .b true, .no, .no, .no, .no, .no, .b true, .no, .no] [4] [] (P := ((k = 2)) ∧ ((fs = s))) (l' := [(4, bV true)]) (g' := []) (nx' := 2) (by kernel_rfl) ⟨(by omega), (by omega)⟩ ?_
            refine AW.ret ?_
            exact EndP.of (.inr rfl) [] (P := ((reB fk fs fv k s v) = true)) (by kernel_rfl) (by first | exact decide_eq_true (by omega) | exact decide_eq_false (by omega))
          · refine AW.rgs [.no, .no, .b true, .no, .no, .no, .no, .no, .b false, .no, .no] [4] [] (P := ((k = 2)) ∧ (¬ (fs = s))) (l' := [(4, bV false)]) (g' := []) (nx' := 2) (by kernel_rfl) ⟨(by omega), (by omega)⟩ ?_
            refine AW.ret ?_
            exact EndP.of (.inr rfl) [] (P := ((reB fk fs fv k s v) = false)) (by kernel_rfl) (by first | exact decide_eq_true (by omega) | exact decide_eq_false (by omega))
        · refine AW.rgs [.no, .no, .b false, .no, .no, .no] [4] [] (P := (¬ (k = 2))) (l' := [(4, bV false)]) (g' := []) (nx' := 2) (by kernel_rfl) (by omega) ?_
          refine AW.ret ?_
          exact EndP.of (.inr rfl) [] (P := ((reB fk fs fv k s v) = false)) (by kernel_rfl) (by first | exact decide_eq_true (by omega) | exact decide_eq_false (by omega))
      · refine AW.rgs [.b false, .no] [2, 3, 9, 24] [0, 1] (P := (¬ (fk = 7))) (l' := [(2, rV 0 0), (3, rV 1 0), (9, iV fk), (24, bV false)]) (g' := [(0, some (45, .ds [iD fk, iD ft, iD fs, D.lit (.int .u64 fv)])), (1, some (32, .ds [iD k, iD t, iD q, iD s, D.lit (.int .u64 v), iD f]))]) (nx' := 2) (by kernel_rfl) (by omega) ?_
        refine AW.cond_f (.tmp (Look.of rfl)) ?_
        by_cases hx8 : (fk = 2)
        · refine AW.rgs [.b true, .no] [2, 3, 9, 36] [0, 1] (P := ((fk = 2))) (l' := [(2, rV 0 0), (3, rV 1 0), (9, iV fk), (36, bV true)]) (g' := [(0, some (45, .ds [iD fk, iD ft, iD fs, D.lit (.int .u64 fv)])), (1, some (32, .ds [iD k, iD t, iD q, iD s, D.lit (.int .u64 v), iD f]))]) (nx' := 2) (by kernel_rfl) (by omega) ?_
          refine AW.cond_t (.tmp (Look.of rfl)) ?_
          by_cases hx9 : (k = 1)
          · by_cases hx10 : (fs = s)
            · refine AW.rgs [.no, .no, .b true, .no, .no, .no, .no, .no, .no, .no, .b true, .no, .no] [4] [] (P := ((k = 1)) ∧ ((fs = s))) (l' := [(4, bV true)]) (g' := []) (nx' := 2) (by kernel_rfl) ⟨(by omega), (by omega)⟩ ?_
              refine AW.ret ?_
              exact EndP.of (.inr rfl) [] (P := ((reB fk fs fv k s v) = true)) (by kernel_rfl) (by first | exact decide_eq_true (by omega) | exact decide_eq_false (by omega))
            · refine AW.rgs [.no, .no, .b true, .no, .no, .no, .no, .no, .no, .no, .b false, .no, .no] [4] [] (P := ((k = 1)) ∧ (¬ (fs = s))) (l' := [(4, bV false)]) (g' := []) (nx' := 2) (by kernel_rfl) ⟨(by omega), (by omega)⟩ ?_
              refine AW.ret ?_
              exact EndP.of (.inr rfl) [] (P := ((reB fk fs fv k s v) = false)) (by kernel_rfl) (by first | exact decide_eq_true (by omega) | exact decide_eq_false (by omega))
          · by_cases hx11 : (k = 2)
            · by_cases hx12 : (fs = s)
              · refine AW.rgs [.no, .no, .b false, .no, .no, .no, .b true, .no, .no, .no, .no, .no, .no, .b true, .no, .no] [4] [] (P := (¬ (k = 1)) ∧ ((k = 2)) ∧ ((fs = s))) (l' := [(4, bV true)]) (g' := []) (nx' := 2) (by kernel_rfl) ⟨(by omega), (by omega), (by omega)⟩ ?_
                refine AW.ret ?_
                exact EndP.of (.inr rfl) [] (P := ((reB fk fs fv k s v) = true)) (by kernel_rfl) (by first | exact decide_eq_true (by omega) | exact decide_eq_false (by omega))
              · refine AW.rgs [.no, .no, .b false, .no, .no, .no, .b true, .no, .no, .no, .no, .no, .no, .b false, .no, .no] [4] [] (P := (¬ (k = 1)) ∧ ((k = 2)) ∧ (¬ (fs = s))) (l' := [(4, bV false)]) (g' := []) (nx' := 2) (by kernel_rfl) ⟨(by omega), (by omega), (by omega)⟩ ?_
                refine AW.ret ?_
                exact EndP.of (.inr rfl) [] (P := ((reB fk fs fv k s v) = false)) (by kernel_rfl) (by first | exact decide_eq_true (by omega) | exact decide_eq_false (by omega))
            · refine AW.rgs [.no, .no, .b false, .no, .no, .no, .b false, .no, .no, .no, .no] [4] [] (P := (¬ (k = 1)) ∧ (¬ (k = 2))) (l' := [(4, bV false)]) (g' := []) (nx' := 2) (by kernel_rfl) ⟨(by omega), (by omega)⟩ ?_
              refine AW.ret ?_
              exact EndP.of (.inr rfl) [] (P := ((reB fk fs fv k s v) = false)) (by kernel_rfl) (by first | exact decide_eq_true (by omega) | exact decide_eq_false (by omega))
        · refine AW.rgs [.b false, .no] [2, 3, 9, 36] [0, 1] (P := (¬ (fk = 2))) (l' := [(2, rV 0 0), (3, rV 1 0), (9, iV fk), (36, bV false)]) (g' := [(0, some (45, .ds [iD fk, iD ft, iD fs, D.lit (.int .u64 fv)])), (1, some (32, .ds [iD k, iD t, iD q, iD s, D.lit (.int .u64 v), iD f]))]) (nx' := 2) (by kernel_rfl) (by omega) ?_
          refine AW.cond_f (.tmp (Look.of rfl)) ?_
          by_cases hx13 : (fk = 3)
          · refine AW.rgs [.b true, .no] [2, 3, 53] [0, 1] (P := ((fk = 3))) (l' := [(2, rV 0 0), (3, rV 1 0), (53, bV true)]) (g' := [(0, some (45, .ds [iD fk, iD ft, iD fs, D.lit (.int .u64 fv)])), (1, some (32, .ds [iD k, iD t, iD q, iD s, D.lit (.int .u64 v), iD f]))]) (nx' := 2) (by kernel_rfl) (by omega) ?_
            refine AW.cond_t (.tmp (Look.of rfl)) ?_
            by_cases hx14 : (k = 3)
            · by_cases hx15 : (fv = v)
              · refine AW.rgs [.no, .no, .b true, .no, .no, .no, .no, .no, .no, .no, .b true, .no, .no] [4] [] (P := ((k = 3)) ∧ ((fv = v))) (l' := [(4, bV true)]) (g' := []) (nx' := 2) (by kernel_rfl) ⟨(by omega), (by omega)⟩ ?_
                refine AW.ret ?_
                exact EndP.of (.inr rfl) [] (P := ((reB fk fs fv k s v) = true)) (by kernel_rfl) (by first | exact decide_eq_true (by omega) | exact decide_eq_false (by omega))
              · refine AW.rgs [.no, .no, .b true, .no, .no, .no, .no, .no, .no, .no, .b false, .no, .no] [4] [] (P := ((k = 3)) ∧ (¬ (fv = v))) (l' := [(4, bV false)]) (g' := []) (nx' := 2) (by kernel_rfl) ⟨(by omega), (by omega)⟩ ?_
                refine AW.ret ?_
                exact EndP.of (.inr rfl) [] (P := ((reB fk fs fv k s v) = false)) (by kernel_rfl) (by first | exact decide_eq_true (by omega) | exact decide_eq_false (by omega))
            · by_cases hx16 : (k = 4)
              · by_cases hx17 : (fv = v)
                · refine AW.rgs [.no, .no, .b false, .no, .no, .no, .b true, .no, .no, .no, .no, .no, .no, .b true, .no, .no] [4] [] (P := (¬ (k = 3)) ∧ ((k = 4)) ∧ ((fv = v))) (l' := [(4, bV true)]) (g' := []) (nx' := 2) (by kernel_rfl) ⟨(by omega), (by omega), (by omega)⟩ ?_
                  refine AW.ret ?_
                  exact EndP.of (.inr rfl) [] (P := ((reB fk fs fv k s v) = true)) (by kernel_rfl) (by first | exact decide_eq_true (by omega) | exact decide_eq_false (by omega))
                · refine AW.rgs [.no, .no, .b false, .no, .no, .no, .b true, .no, .no, .no, .no, .no, .no, .b false, .no, .no] [4] [] (P := (¬ (k = 3)) ∧ ((k = 4)) ∧ (¬ (fv = v))) (l' := [(4, bV false)]) (g' := []) (nx' := 2) (by kernel_rfl) ⟨(by omega), (by omega), (by omega)⟩ ?_
                  refine AW.ret ?_
                  exact EndP.of (.inr rfl) [] (P := ((reB fk fs fv k s v) = false)) (by kernel_rfl) (by first | exact decide_eq_true (by omega) | exact decide_eq_false (by omega))
              · refine AW.rgs [.no, .no, .b false, .no, .no, .no, .b false, .no, .no, .no, .no] [4] [] (P := (¬ (k = 3)) ∧ (¬ (k = 4))) (l' := [(4, bV false)]) (g' := []) (nx' := 2) (by kernel_rfl) ⟨(by omega), (by omega)⟩ ?_
                refine AW.ret ?_
                exact EndP.of (.inr rfl) [] (P := ((reB fk fs fv k s v) = false)) (by kernel_rfl) (by first | exact decide_eq_true (by omega) | exact decide_eq_false (by omega))
          · refine AW.rgs [.b false, .no] [2, 3, 53] [0, 1] (P := (¬ (fk = 3))) (l' := [(2, rV 0 0), (3, rV 1 0), (53, bV false)]) (g' := [(0, some (45, .ds [iD fk, iD ft, iD fs, D.lit (.int .u64 fv)])), (1, some (32, .ds [iD k, iD t, iD q, iD s, D.lit (.int .u64 v), iD f]))]) (nx' := 2) (by kernel_rfl) (by omega) ?_
            refine AW.cond_f (.tmp (Look.of rfl)) ?_
            refine AW.skip ?_
            refine AW.rgs [.no] [4] [] (P := True) (l' := [(4, bV false)]) (g' := []) (nx' := 2) (by kernel_rfl) trivial ?_
            refine AW.ret ?_
            exact EndP.of (.inr rfl) [] (P := ((reB fk fs fv k s v) = false)) (by kernel_rfl) (by first | exact decide_eq_true (by omega) | exact decide_eq_false (by omega))

set_option maxHeartbeats 4000000 in
set_option maxRecDepth 100000 in
theorem Z_rRel (fk ft fs fv k t q s v f : Int) (hv : 0 ≤ v) (hg : glB k t q s v f = true) : Fun 17 [.agg [iC fk, iC ft, iC fs, .d (D.lit (.int .u64 fv))], .agg [iC k, iC t, iC q, iC s, .d (D.lit (.int .u64 v)), iC f]] (toG []) 0 (.e (.c (.d (D.lit (.bool (reB fk fs fv k s v)))))) (toG []) 0 := by
  have hgk : k = 1 ∨ k = 2 ∨ k = 3 ∨ k = 4 := by have h9 := of_decide_eq_true hg; omega
  refine Fun.mk (n := 66) Try.func17 rfl rfl (Nat.le_of_ble_eq_true rfl) ?_
  intro cx hcx
  refine AW.rgs [.no, .no, .no] [2, 3] [0, 1] (P := True) (l' := [(2, rV 0 0), (3, rV 1 0)]) (g' := [(0, some (45, .ds [iD fk, iD ft, iD fs, D.lit (.int .u64 fv)])), (1, some (32, .ds [iD k, iD t, iD q, iD s, D.lit (.int .u64 v), iD f]))]) (nx' := 2) (by kernel_rfl) trivial ?_
  refine AW.seq ?_
  refine AW.rgs [.no, .call [] (bV true) [] 0 [] none, .no] [2, 3, 8] [0, 1] (P := (Fun 28 [.agg [iC k, iC t, iC q, iC s, .d (D.lit (.int .u64 v)), iC f]] (toG []) 0 (bV true) (toG []) 0)) (l' := [(2, rV 0 0), (3, rV 1 0), (8, bV false)]) (g' := [(0, some (45, .ds [iD fk, iD ft, iD fs, D.lit (.int .u64 fv)])), (1, some (32, .ds [iD k, iD t, iD q, iD s, D.lit (.int .u64 v), iD f]))]) (nx' := 2) (by kernel_rfl) (by have h0 := (Z_rValid k t q s v f (by omega)); rw [hg] at h0; exact h0) ?_
  refine AW.cond_f (.tmp (Look.of rfl)) ?_
  refine AW.skip ?_
  by_cases hx1 : (k = 1)
  · refine AW.rgs [.no, .no, .b true, .no, .no, .no] [2, 3, 5] [0, 1] (P := ((k = 1))) (l' := [(2, rV 0 0), (3, rV 1 0), (5, bV true)]) (g' := [(0, some (45, .ds [iD fk, iD ft, iD fs, D.lit (.int .u64 fv)])), (1, some (32, .ds [iD k, iD t, iD q, iD s, D.lit (.int .u64 v), iD f]))]) (nx' := 2) (by kernel_rfl) (by omega) ?_
    refine AW.seq ?_
    refine AW.rgs [.no, .no] [2, 3, 5, 18] [0, 1] (P := True) (l' := [(2, rV 0 0), (3, rV 1 0), (5, bV true), (18, iV fk)]) (g' := [(0, some (45, .ds [iD fk, iD ft, iD fs, D.lit (.int .u64 fv)])), (1, some (32, .ds [iD k, iD t, iD q, iD s, D.lit (.int .u64 v), iD f]))]) (nx' := 2) (by kernel_rfl) trivial ?_
    refine AW.block ?_
    by_cases hx2 : (fk = 8)
    · refine AW.rgs [.b true, .no] [2, 3, 5, 18, 19] [0, 1] (P := ((fk = 8))) (l' := [(2, rV 0 0), (3, rV 1 0), (5, bV true), (18, iV fk), (19, bV true)]) (g' := [(0, some (45, .ds [iD fk, iD ft, iD fs, D.lit (.int .u64 fv)])), (1, some (32, .ds [iD k, iD t, iD q, iD s, D.lit (.int .u64 v), iD f]))]) (nx' := 2) (by kernel_rfl) (by omega) ?_
      refine AW.cond_t (.tmp (Look.of rfl)) ?_
      refine AW.rgs [.no] [4] [] (P := True) (l' := [(4, bV true)]) (g' := []) (nx' := 2) (by kernel_rfl) trivial ?_
      refine AW.ret ?_
      exact EndP.of (.inr rfl) [] (P := ((reB fk fs fv k s v) = true)) (by kernel_rfl) (by first | exact decide_eq_true (by omega) | exact decide_eq_false (by omega))
    · refine AW.rgs [.b false, .no] [2, 3, 5, 18, 19] [0, 1] (P := (¬ (fk = 8))) (l' := [(2, rV 0 0), (3, rV 1 0), (5, bV true), (18, iV fk), (19, bV false)]) (g' := [(0, some (45, .ds [iD fk, iD ft, iD fs, D.lit (.int .u64 fv)])), (1, some (32, .ds [iD k, iD t, iD q, iD s, D.lit (.int .u64 v), iD f]))]) (nx' := 2) (by kernel_rfl) (by omega) ?_
      refine AW.cond_f (.tmp (Look.of rfl)) ?_
      by_cases hx3 : (fk = 1)
      · refine AW.rgs [.b true, .no] [2, 3, 5, 18, 21] [0, 1] (P := ((fk = 1))) (l' := [(2, rV 0 0), (3, rV 1 0), (5, bV true), (18, iV fk), (21, bV true)]) (g' := [(0, some (45, .ds [iD fk, iD ft, iD fs, D.lit (.int .u64 fv)])), (1, some (32, .ds [iD k, iD t, iD q, iD s, D.lit (.int .u64 v), iD f]))]) (nx' := 2) (by kernel_rfl) (by omega) ?_
        refine AW.cond_t (.tmp (Look.of rfl)) ?_
        by_cases hx4 : (fs = s)
        · refine AW.rgs [.no, .no, .b true, .no, .no, .no, .no, .no, .b true, .no, .no] [4] [] (P := ((k = 1)) ∧ ((fs = s))) (l' := [(4, bV true)]) (g' := []) (nx' := 2) (by kernel_rfl) ⟨(by omega), (by omega)⟩ ?_
          refine AW.ret ?_
          exact EndP.of (.inr rfl) [] (P := ((reB fk fs fv k s v) = true)) (by kernel_rfl) (by first | exact decide_eq_true (by omega) | exact decide_eq_false (by omega))
        · refine AW.rgs [.no, .no, .b true, .no, .no, .no, .no, .no, .b false, .no, .no] [4] [] (P := ((k = 1)) ∧ (¬ (fs = s))) (l' := [(4, bV false)]) (g' := []) (nx' := 2) (by kernel_rfl) ⟨(by omega), (by omega)⟩ ?_
          refine AW.ret ?_
          exact EndP.of (.inr rfl) [] (P := ((reB fk fs fv k s v) = false)) (by kernel_rfl) (by first | exact decide_eq_true (by omega) | exact decide_eq_false (by omega))
      · refine AW.rgs [.b false, .no] [2, 3, 5, 18, 21] [0, 1] (P := (¬ (fk = 1))) (l' := [(2, rV 0 0), (3, rV 1 0), (5, bV true), (18, iV fk), (21, bV false)]) (g' := [(0, some (45, .ds [iD fk, iD ft, iD fs, D.lit (.int .u64 fv)])), (1, some (32, .ds [iD k, iD t, iD q, iD s, D.lit (.int .u64 v), iD f]))]) (nx' := 2) (by kernel_rfl) (by omega) ?_
        refine AW.cond_f (.tmp (Look.of rfl)) ?_
        by_cases hx5 : (fk = 7)
        · refine AW.rgs [.b true, .no] [2, 3, 5, 18, 33] [0, 1] (P := ((fk = 7))) (l' := [(2, rV 0 0), (3, rV 1 0), (5, bV true), (18, iV fk), (33, bV true)]) (g' := [(0, some (45, .ds [iD fk, iD ft, iD fs, D.lit (.int .u64 fv)])), (1, some (32, .ds [iD k, iD t, iD q, iD s, D.lit (.int .u64 v), iD f]))]) (nx' := 2) (by kernel_rfl) (by omega) ?_
          refine AW.cond_t (.tmp (Look.of rfl)) ?_
          refine AW.rgs [.no, .no, .b false, .no, .no, .no] [4] [] (P := (¬ (k = 2))) (l' := [(4, bV false)]) (g' := []) (nx' := 2) (by kernel_rfl) (by omega) ?_
          refine AW.ret ?_
          exact EndP.of (.inr rfl) [] (P := ((reB fk fs fv k s v) = false)) (by kernel_rfl) (by first | exact decide_eq_true (by omega) | exact decide_eq_false (by omega))
        · refine AW.rgs [.b false, .no] [2, 3, 5, 18, 33] [0, 1] (P := (¬ (fk = 7))) (l' := [(2, rV 0 0), (3, rV 1 0), (5, bV true), (18, iV fk), (33, bV false)]) (g' := [(0, some (45, .ds [iD fk, iD ft, iD fs, D.lit (.int .u64 fv)])), (1, some (32, .ds [iD k, iD t, iD q, iD s, D.lit (.int .u64 v), iD f]))]) (nx' := 2) (by kernel_rfl) (by omega) ?_
          refine AW.cond_f (.tmp (Look.of rfl)) ?_
          by_cases hx6 : (fk = 2)
          · refine AW.rgs [.b true, .no] [2, 3, 5, 18, 45] [0, 1] (P := ((fk = 2))) (l' := [(2, rV 0 0), (3, rV 1 0), (5, bV true), (18, iV fk), (45, bV true)]) (g' := [(0, some (45, .ds [iD fk, iD ft, iD fs, D.lit (.int .u64 fv)])), (1, some (32, .ds [iD k, iD t, iD q, iD s, D.lit (.int .u64 v), iD f]))]) (nx' := 2) (by kernel_rfl) (by omega) ?_
            refine AW.cond_t (.tmp (Look.of rfl)) ?_
            by_cases hx7 : (fs = s)
            · refine AW.rgs [.no, .no, .no, .no, .no, .no, .b true, .no, .no] [4] [] (P := ((fs = s))) (l' := [(4, bV true)]) (g' := []) (nx' := 2) (by kernel_rfl) (by omega) ?_
              refine AW.ret ?_
              exact EndP.of (.inr rfl) [] (P := ((reB fk fs fv k s v) = true)) (by kernel_rfl) (by first | exact decide_eq_true (by omega) | exact decide_eq_false (by omega))
            · refine AW.rgs [.no, .no, .no, .no, .no, .no, .b false, .no, .no] [4] [] (P := (¬ (fs = s))) (l' := [(4, bV false)]) (g' := []) (nx' := 2) (by kernel_rfl) (by omega) ?_
              refine AW.ret ?_
              exact EndP.of (.inr rfl) [] (P := ((reB fk fs fv k s v) = false)) (by kernel_rfl) (by first | exact decide_eq_true (by omega) | exact decide_eq_false (by omega))
          · refine AW.rgs [.b false, .no] [2, 3, 5, 18, 45] [0, 1] (P := (¬ (fk = 2))) (l' := [(2, rV 0 0), (3, rV 1 0), (5, bV true), (18, iV fk), (45, bV false)]) (g' := [(0, some (45, .ds [iD fk, iD ft, iD fs, D.lit (.int .u64 fv)])), (1, some (32, .ds [iD k, iD t, iD q, iD s, D.lit (.int .u64 v), iD f]))]) (nx' := 2) (by kernel_rfl) (by omega) ?_
            refine AW.cond_f (.tmp (Look.of rfl)) ?_
            by_cases hx8 : (fk = 3)
            · refine AW.rgs [.b true, .no] [2, 3, 5, 55] [0, 1] (P := ((fk = 3))) (l' := [(2, rV 0 0), (3, rV 1 0), (5, bV true), (55, bV true)]) (g' := [(0, some (45, .ds [iD fk, iD ft, iD fs, D.lit (.int .u64 fv)])), (1, some (32, .ds [iD k, iD t, iD q, iD s, D.lit (.int .u64 v), iD f]))]) (nx' := 2) (by kernel_rfl) (by omega) ?_
              refine AW.cond_t (.tmp (Look.of rfl)) ?_
              refine AW.rgs [.no, .no, .no, .no, .no] [4] [] (P := True) (l' := [(4, bV false)]) (g' := []) (nx' := 2) (by kernel_rfl) trivial ?_
              refine AW.ret ?_
              exact EndP.of (.inr rfl) [] (P := ((reB fk fs fv k s v) = false)) (by kernel_rfl) (by first | exact decide_eq_true (by omega) | exact decide_eq_false (by omega))
            · refine AW.rgs [.b false, .no] [2, 3, 5, 55] [0, 1] (P := (¬ (fk = 3))) (l' := [(2, rV 0 0), (3, rV 1 0), (5, bV true), (55, bV false)]) (g' := [(0, some (45, .ds [iD fk, iD ft, iD fs, D.lit (.int .u64 fv)])), (1, some (32, .ds [iD k, iD t, iD q, iD s, D.lit (.int .u64 v), iD f]))]) (nx' := 2) (by kernel_rfl) (by omega) ?_
              refine AW.cond_f (.tmp (Look.of rfl)) ?_
              refine AW.skip ?_
              refine AW.rgs [.no] [4] [] (P := True) (l' := [(4, bV false)]) (g' := []) (nx' := 2) (by kernel_rfl) trivial ?_
              refine AW.ret ?_
              exact EndP.of (.inr rfl) [] (P := ((reB fk fs fv k s v) = false)) (by kernel_rfl) (by first | exact decide_eq_true (by omega) | exact decide_eq_false (by omega))
  · by_cases hx9 : (k = 2)
    · refine AW.rgs [.no, .no, .b false, .no, .no, .no, .b true, .no, .no] [2, 3, 5] [0, 1] (P := (¬ (k = 1)) ∧ ((k = 2))) (l' := [(2, rV 0 0), (3, rV 1 0), (5, bV true)]) (g' := [(0, some (45, .ds [iD fk, iD ft, iD fs, D.lit (.int .u64 fv)])), (1, some (32, .ds [iD k, iD t, iD q, iD s, D.lit (.int .u64 v), iD f]))]) (nx' := 2) (by kernel_rfl) ⟨(by omega), (by omega)⟩ ?_
      refine AW.seq ?_
      refine AW.rgs [.no, .no] [2, 3, 5, 18] [0, 1] (P := True) (l' := [(2, rV 0 0), (3, rV 1 0), (5, bV true), (18, iV fk)]) (g' := [(0, some (45, .ds [iD fk, iD ft, iD fs, D.lit (.int .u64 fv)])), (1, some (32, .ds [iD k, iD t, iD q, iD s, D.lit (.int .u64 v), iD f]))]) (nx' := 2) (by kernel_rfl) trivial ?_
      refine AW.block ?_
      by_cases hx10 : (fk = 8)
      · refine AW.rgs [.b true, .no] [2, 3, 5, 18, 19] [0, 1] (P := ((fk = 8))) (l' := [(2, rV 0 0), (3, rV 1 0), (5, bV true), (18, iV fk), (19, bV true)]) (g' := [(0, some (45, .ds [iD fk, iD ft, iD fs, D.lit (.int .u64 fv)])), (1, some (32, .ds [iD k, iD t, iD q, iD s, D.lit (.int .u64 v), iD f]))]) (nx' := 2) (by kernel_rfl) (by omega) ?_
        refine AW.cond_t (.tmp (Look.of rfl)) ?_
        refine AW.rgs [.no] [4] [] (P := True) (l' := [(4, bV true)]) (g' := []) (nx' := 2) (by kernel_rfl) trivial ?_
        refine AW.ret ?_
        exact EndP.of (.inr rfl) [] (P := ((reB fk fs fv k s v) = true)) (by kernel_rfl) (by first | exact decide_eq_true (by omega) | exact decide_eq_false (by omega))
      · refine AW.rgs [.b false, .no] [2, 3, 5, 18, 19] [0, 1] (P := (¬ (fk = 8))) (l' := [(2, rV 0 0), (3, rV 1 0), (5, bV true), (18, iV fk), (19, bV false)]) (g' := [(0, some (45, .ds [iD fk, iD ft, iD fs, D.lit (.int .u64 fv)])), (1, some (32, .ds [iD k, iD t, iD q, iD s, D.lit (.int .u64 v), iD f]))]) (nx' := 2) (by kernel_rfl) (by omega) ?_
        refine AW.cond_f (.tmp (Look.of rfl)) ?_
        by_cases hx11 : (fk = 1)
        · refine AW.rgs [.b true, .no] [2, 3, 5, 18, 21] [0, 1] (P := ((fk = 1))) (l' := [(2, rV 0 0), (3, rV 1 0), (5, bV true), (18, iV fk), (21, bV true)]) (g' := [(0, some (45, .ds [iD fk, iD ft, iD fs, D.lit (.int .u64 fv)])), (1, some (32, .ds [iD k, iD t, iD q, iD s, D.lit (.int .u64 v), iD f]))]) (nx' := 2) (by kernel_rfl) (by omega) ?_
          refine AW.cond_t (.tmp (Look.of rfl)) ?_
          refine AW.rgs [.no, .no, .b false, .no, .no, .no] [4] [] (P := (¬ (k = 1))) (l' := [(4, bV false)]) (g' := []) (nx' := 2) (by kernel_rfl) (by omega) ?_
          refine AW.ret ?_
          exact EndP.of (.inr rfl) [] (P := ((reB fk fs fv k s v) = false)) (by kernel_rfl) (by first | exact decide_eq_true (by omega) | exact decide_eq_false (by omega))
        · refine AW.rgs [.b false, .no] [2, 3, 5, 18, 21] [0, 1] (P := (¬ (fk = 1))) (l' := [(2, rV 0 0), (3, rV 1 0), (5, bV true), (18, iV fk), (21, bV false)]) (g' := [(0, some (45, .ds [iD fk, iD ft, iD fs, D.lit (.int .u64 fv)])), (1, some (32, .ds [iD k, iD t, iD q, iD s, D.lit (.int .u64 v), iD f]))]) (nx' := 2) (by kernel_rfl) (by omega) ?_
          refine AW.cond_f (.tmp (Look.of rfl)) ?_
          by_cases hx12 : (fk = 7)
          · refine AW.rgs [.b true, .no] [2, 3, 5, 18, 33] [0, 1] (P := ((fk = 7))) (l' := [(2, rV 0 0), (3, rV 1 0), (5, bV true), (18, iV fk), (33, bV true)]) (g' := [(0, some (45, .ds [iD fk, iD ft, iD fs, D.lit (.int .u64 fv)])), (1, some (32, .ds [iD k, iD t, iD q, iD s, D.lit (.int .u64 v), iD f]))]) (nx' := 2) (by kernel_rfl) (by omega) ?_
            refine AW.cond_t (.tmp (Look.of rfl)) ?_
            by_cases hx13 : (fs = s)
            · refine AW.rgs [.no, .no, .b true, .no, .no, .no, .no, .no, .b true, .no, .no] [4] [] (P := ((k = 2)) ∧ ((fs = s))) (l' := [(4, bV true)]) (g' := []) (nx' := 2) (by kernel_rfl) ⟨(by omega), (by omega)⟩ ?_
              refine AW.ret ?_
              exact EndP.of (.inr rfl) [] (P := ((reB fk fs fv k s v) = true)) (by kernel_rfl) (by first | exact decide_eq_true (by omega) | exact decide_eq_false (by omega))
            · refine AW.rgs [.no, .no, .b true, .no, .no, .no, .no, .no, .b false, .no, .no] [4] [] (P := ((k = 2)) ∧ (¬ (fs = s))) (l' := [(4, bV false)]) (g' := []) (nx' := 2) (by kernel_rfl) ⟨(by omega), (by omega)⟩ ?_
              refine AW.ret ?_
              exact EndP.of (.inr rfl) [] (P := ((reB fk fs fv k s v) = false)) (by kernel_rfl) (by first | exact decide_eq_true (by omega) | exact decide_eq_false (by omega))
          · refine AW.rgs [.b false, .no] [2, 3, 5, 18, 33] [0, 1] (P := (¬ (fk = 7))) (l' := [(2, rV 0 0), (3, rV 1 0), (5, bV true), (18, iV fk), (33, bV false)]) (g' := [(0, some (45, .ds [iD fk, iD ft, iD fs, D.lit (.int .u64 fv)])), (1, some (32, .ds [iD k, iD t, iD q, iD s, D.lit (.int .u64 v), iD f]))]) (nx' := 2) (by kernel_rfl) (by omega) ?_
            refine AW.cond_f (.tmp (Look.of rfl)) ?_
            by_cases hx14 : (fk = 2)
            · refine AW.rgs [.b true, .no] [2, 3, 5, 18, 45] [0, 1] (P := ((fk = 2))) (l' := [(2, rV 0 0), (3, rV 1 0), (5, bV true), (18, iV fk), (45, bV true)]) (g' := [(0, some (45, .ds [iD fk, iD ft, iD fs, D.lit (.int .u64 fv)])), (1, some (32, .ds [iD k, iD t, iD q, iD s, D.lit (.int .u64 v), iD f]))]) (nx' := 2) (by kernel_rfl) (by omega) ?_
              refine AW.cond_t (.tmp (Look.of rfl)) ?_
              by_cases hx15 : (fs = s)
              · refine AW.rgs [.no, .no, .no, .no, .no, .no, .b true, .no, .no] [4] [] (P := ((fs = s))) (l' := [(4, bV true)]) (g' := []) (nx' := 2) (by kernel_rfl) (by omega) ?_
                refine AW.ret ?_
                exact EndP.of (.inr rfl) [] (P := ((reB fk fs fv k s v) = true)) (by kernel_rfl) (by first | exact decide_eq_true (by omega) | exact decide_eq_false (by omega))
              · refine AW.rgs [.no, .no, .no, .no, .no, .no, .b false, .no, .no] [4] [] (P := (¬ (fs = s))) (l' := [(4, bV false)]) (g' := []) (nx' := 2) (by kernel_rfl) (by omega) ?_
                refine AW.ret ?_
                exact EndP.of (.inr rfl) [] (P := ((reB fk fs fv k s v) = false)) (by kernel_rfl) (by first | exact decide_eq_true (by omega) | exact decide_eq_false (by omega))
            · refine AW.rgs [.b false, .no] [2, 3, 5, 18, 45] [0, 1] (P := (¬ (fk = 2))) (l' := [(2, rV 0 0), (3, rV 1 0), (5, bV true), (18, iV fk), (45, bV false)]) (g' := [(0, some (45, .ds [iD fk, iD ft, iD fs, D.lit (.int .u64 fv)])), (1, some (32, .ds [iD k, iD t, iD q, iD s, D.lit (.int .u64 v), iD f]))]) (nx' := 2) (by kernel_rfl) (by omega) ?_
              refine AW.cond_f (.tmp (Look.of rfl)) ?_
              by_cases hx16 : (fk = 3)
              · refine AW.rgs [.b true, .no] [2, 3, 5, 55] [0, 1] (P := ((fk = 3))) (l' := [(2, rV 0 0), (3, rV 1 0), (5, bV true), (55, bV true)]) (g' := [(0, some (45, .ds [iD fk, iD ft, iD fs, D.lit (.int .u64 fv)])), (1, some (32, .ds [iD k, iD t, iD q, iD s, D.lit (.int .u64 v), iD f]))]) (nx' := 2) (by kernel_rfl) (by omega) ?_
                refine AW.cond_t (.tmp (Look.of rfl)) ?_
                refine AW.rgs [.no, .no, .no, .no, .no] [4] [] (P := True) (l' := [(4, bV false)]) (g' := []) (nx' := 2) (by kernel_rfl) trivial ?_
                refine AW.ret ?_
                exact EndP.of (.inr rfl) [] (P := ((reB fk fs fv k s v) = false)) (by kernel_rfl) (by first | exact decide_eq_true (by omega) | exact decide_eq_false (by omega))
              · refine AW.rgs [.b false, .no] [2, 3, 5, 55] [0, 1] (P := (¬ (fk = 3))) (l' := [(2, rV 0 0), (3, rV 1 0), (5, bV true), (55, bV false)]) (g' := [(0, some (45, .ds [iD fk, iD ft, iD fs, D.lit (.int .u64 fv)])), (1, some (32, .ds [iD k, iD t, iD q, iD s, D.lit (.int .u64 v), iD f]))]) (nx' := 2) (by kernel_rfl) (by omega) ?_
                refine AW.cond_f (.tmp (Look.of rfl)) ?_
                refine AW.skip ?_
                refine AW.rgs [.no] [4] [] (P := True) (l' := [(4, bV false)]) (g' := []) (nx' := 2) (by kernel_rfl) trivial ?_
                refine AW.ret ?_
                exact EndP.of (.inr rfl) [] (P := ((reB fk fs fv k s v) = false)) (by kernel_rfl) (by first | exact decide_eq_true (by omega) | exact decide_eq_false (by omega))
    · refine AW.rgs [.no, .no, .b false, .no, .no, .no, .b false, .no, .no] [2, 3, 5] [0, 1] (P := (¬ (k = 1)) ∧ (¬ (k = 2))) (l' := [(2, rV 0 0), (3, rV 1 0), (5, bV false)]) (g' := [(0, some (45, .ds [iD fk, iD ft, iD fs, D.lit (.int .u64 fv)])), (1, some (32, .ds [iD k, iD t, iD q, iD s, D.lit (.int .u64 v), iD f]))]) (nx' := 2) (by kernel_rfl) ⟨(by omega), (by omega)⟩ ?_
      refine AW.seq ?_
      refine AW.rgs [.no, .no] [2, 3, 5, 18] [0, 1] (P := True) (l' := [(2, rV 0 0), (3, rV 1 0), (5, bV false), (18, iV fk)]) (g' := [(0, some (45, .ds [iD fk, iD ft, iD fs, D.lit (.int .u64 fv)])), (1, some (32, .ds [iD k, iD t, iD q, iD s, D.lit (.int .u64 v), iD f]))]) (nx' := 2) (by kernel_rfl) trivial ?_
      refine AW.block ?_
      by_cases hx17 : (fk = 8)
      · refine AW.rgs [.b true, .no] [2, 3, 5, 18, 19] [0, 1] (P := ((fk = 8))) (l' := [(2, rV 0 0), (3, rV 1 0), (5, bV false), (18, iV fk), (19, bV true)]) (g' := [(0, some (45, .ds [iD fk, iD ft, iD fs, D.lit (.int .u64 fv)])), (1, some (32, .ds [iD k, iD t, iD q, iD s, D.lit (.int .u64 v), iD f]))]) (nx' := 2) (by kernel_rfl) (by omega) ?_
        refine AW.cond_t (.tmp (Look.of rfl)) ?_
        refine AW.rgs [.no] [4] [] (P := True) (l' := [(4, bV true)]) (g' := []) (nx' := 2) (by kernel_rfl) trivial ?_
        refine AW.ret ?_
        exact EndP.of (.inr rfl) [] (P := ((reB fk fs fv k s v) = true)) (by kernel_rfl) (by first | exact decide_eq_true (by omega) | exact decide_eq_false (by omega))
      · refine AW.rgs [.b false, .no] [2, 3, 5, 18, 19] [0, 1] (P := (¬ (fk = 8))) (l' := [(2, rV 0 0), (3, rV 1 0), (5, bV false), (18, iV fk), (19, bV false)]) (g' := [(0, some (45, .ds [iD fk, iD ft, iD fs, D.lit (.int .u64 fv)])), (1, some (32, .ds [iD k, iD t, iD q, iD s, D.lit (.int .u64 v), iD f]))]) (nx' := 2) (by kernel_rfl) (by omega) ?_
        refine AW.cond_f (.tmp (Look.of rfl)) ?_
        by_cases hx18 : (fk = 1)
        · refine AW.rgs [.b true, .no] [2, 3, 5, 18, 21] [0, 1] (P := ((fk = 1))) (l' := [(2, rV 0 0), (3, rV 1 0), (5, bV false), (18, iV fk), (21, bV true)]) (g' := [(0, some (45, .ds [iD fk, iD ft, iD fs, D.lit (.int .u64 fv)])), (1, some (32, .ds [iD k, iD t, iD q, iD s, D.lit (.int .u64 v), iD f]))]) (nx' := 2) (by kernel_rfl) (by omega) ?_
          refine AW.cond_t (.tmp (Look.of rfl)) ?_
          refine AW.rgs [.no, .no, .b false, .no, .no, .no] [4] [] (P := (¬ (k = 1))) (l' := [(4, bV false)]) (g' := []) (nx' := 2) (by kernel_rfl) (by omega) ?_
          refine AW.ret ?_
          exact EndP.of (.inr rfl) [] (P := ((reB fk fs fv k s v) = false)) (by kernel_rfl) (by first | exact decide_eq_true (by omega) | exact decide_eq_false (by omega))
        · refine AW.rgs [.b false, .no] [2, 3, 5, 18, 21] [0, 1] (P := (¬ (fk = 1))) (l' := [(2, rV 0 0), (3, rV 1 0), (5, bV false), (18, iV fk), (21, bV false)]) (g' := [(0, some (45, .ds [iD fk, iD ft, iD fs, D.lit (.int .u64 fv)])), (1, some (32, .ds [iD k, iD t, iD q, iD s, D.lit (.int .u64 v), iD f]))]) (nx' := 2) (by kernel_rfl) (by omega) ?_
          refine AW.cond_f (.tmp (Look.of rfl)) ?_
          by_cases hx19 : (fk = 7)
          · refine AW.rgs [.b true, .no] [2, 3, 5, 18, 33] [0, 1] (P := ((fk = 7))) (l' := [(2, rV 0 0), (3, rV 1 0), (5, bV false), (18, iV fk), (33, bV true)]) (g' := [(0, some (45, .ds [iD fk, iD ft, iD fs, D.lit (.int .u64 fv)])), (1, some (32, .ds [iD k, iD t, iD q, iD s, D.lit (.int .u64 v), iD f]))]) (nx' := 2) (by kernel_rfl) (by omega) ?_
            refine AW.cond_t (.tmp (Look.of rfl)) ?_
            refine AW.rgs [.no, .no, .b false, .no, .no, .no] [4] [] (P := (¬ (k = 2))) (l' := [(4, bV false)]) (g' := []) (nx' := 2) (by kernel_rfl) (by omega) ?_
            refine AW.ret ?_
            exact EndP.of (.inr rfl) [] (P := ((reB fk fs fv k s v) = false)) (by kernel_rfl) (by first | exact decide_eq_true (by omega) | exact decide_eq_false (by omega))
          · refine AW.rgs [.b false, .no] [2, 3, 5, 18, 33] [0, 1] (P := (¬ (fk = 7))) (l' := [(2, rV 0 0), (3, rV 1 0), (5, bV false), (18, iV fk), (33, bV false)]) (g' := [(0, some (45, .ds [iD fk, iD ft, iD fs, D.lit (.int .u64 fv)])), (1, some (32, .ds [iD k, iD t, iD q, iD s, D.lit (.int .u64 v), iD f]))]) (nx' := 2) (by kernel_rfl) (by omega) ?_
            refine AW.cond_f (.tmp (Look.of rfl)) ?_
            by_cases hx20 : (fk = 2)
            · refine AW.rgs [.b true, .no] [2, 3, 5, 18, 45] [0, 1] (P := ((fk = 2))) (l' := [(2, rV 0 0), (3, rV 1 0), (5, bV false), (18, iV fk), (45, bV true)]) (g' := [(0, some (45, .ds [iD fk, iD ft, iD fs, D.lit (.int .u64 fv)])), (1, some (32, .ds [iD k, iD t, iD q, iD s, D.lit (.int .u64 v), iD f]))]) (nx' := 2) (by kernel_rfl) (by omega) ?_
              refine AW.cond_t (.tmp (Look.of rfl)) ?_
              refine AW.rgs [.no, .no, .no, .no] [4] [] (P := True) (l' := [(4, bV false)]) (g' := []) (nx' := 2) (by kernel_rfl) trivial ?_
              refine AW.ret ?_
              exact EndP.of (.inr rfl) [] (P := ((reB fk fs fv k s v) = false)) (by kernel_rfl) (by first | exact decide_eq_true (by omega) | exact decide_eq_false (by omega))
            · refine AW.rgs [.b false, .no] [2, 3, 5, 18, 45] [0, 1] (P := (¬ (fk = 2))) (l' := [(2, rV 0 0), (3, rV 1 0), (5, bV false), (18, iV fk), (45, bV false)]) (g' := [(0, some (45, .ds [iD fk, iD ft, iD fs, D.lit (.int .u64 fv)])), (1, some (32, .ds [iD k, iD t, iD q, iD s, D.lit (.int .u64 v), iD f]))]) (nx' := 2) (by kernel_rfl) (by omega) ?_
              refine AW.cond_f (.tmp (Look.of rfl)) ?_
              by_cases hx21 : (fk = 3)
              · refine AW.rgs [.b true, .no] [2, 3, 5, 55] [0, 1] (P := ((fk = 3))) (l' := [(2, rV 0 0), (3, rV 1 0), (5, bV false), (55, bV true)]) (g' := [(0, some (45, .ds [iD fk, iD ft, iD fs, D.lit (.int .u64 fv)])), (1, some (32, .ds [iD k, iD t, iD q, iD s, D.lit (.int .u64 v), iD f]))]) (nx' := 2) (by kernel_rfl) (by omega) ?_
                refine AW.cond_t (.tmp (Look.of rfl)) ?_
                by_cases hx22 : (fv = v)
                · refine AW.rgs [.no, .no, .no, .no, .no, .no, .no, .b true, .no, .no] [4] [] (P := ((fv = v))) (l' := [(4, bV true)]) (g' := []) (nx' := 2) (by kernel_rfl) (by omega) ?_
                  refine AW.ret ?_
                  exact EndP.of (.inr rfl) [] (P := ((reB fk fs fv k s v) = true)) (by kernel_rfl) (by first | exact decide_eq_true (by omega) | exact decide_eq_false (by omega))
                · refine AW.rgs [.no, .no, .no, .no, .no, .no, .no, .b false, .no, .no] [4] [] (P := (¬ (fv = v))) (l' := [(4, bV false)]) (g' := []) (nx' := 2) (by kernel_rfl) (by omega) ?_
                  refine AW.ret ?_
                  exact EndP.of (.inr rfl) [] (P := ((reB fk fs fv k s v) = false)) (by kernel_rfl) (by first | exact decide_eq_true (by omega) | exact decide_eq_false (by omega))
              · refine AW.rgs [.b false, .no] [2, 3, 5, 55] [0, 1] (P := (¬ (fk = 3))) (l' := [(2, rV 0 0), (3, rV 1 0), (5, bV false), (55, bV false)]) (g' := [(0, some (45, .ds [iD fk, iD ft, iD fs, D.lit (.int .u64 fv)])), (1, some (32, .ds [iD k, iD t, iD q, iD s, D.lit (.int .u64 v), iD f]))]) (nx' := 2) (by kernel_rfl) (by omega) ?_
                refine AW.cond_f (.tmp (Look.of rfl)) ?_
                refine AW.skip ?_
                refine AW.rgs [.no] [4] [] (P := True) (l' := [(4, bV false)]) (g' := []) (nx' := 2) (by kernel_rfl) trivial ?_
                refine AW.ret ?_
                exact EndP.of (.inr rfl) [] (P := ((reB fk fs fv k s v) = false)) (by kernel_rfl) (by first | exact decide_eq_true (by omega) | exact decide_eq_false (by omega))

set_option maxHeartbeats 4000000 in
set_option maxRecDepth 100000 in
theorem Z_Explain_ok (xs : List (List Int)) (n : Nat) (h k t q s v f : Int) (hn : List.length xs = n) (hb : n ≤ 1000000) (hh : -1152921504606846976 ≤ h ∧ h ≤ 1152921504606846976) (hv : 0 ≤ v) (hg : glB k t q s v f = true) (hh2 : 0 ≤ h ∧ h ≤ 1099511627776) : Fun 15 [.c (.d (D.sl (fcD xs) n)), iE h, .agg [iC k, iC t, iC q, iC s, .d (D.lit (.int .u64 v)), iC f]] (toG []) 0 (.e (.agg [iC (exI xs h k t q s v n), .d (D.lit (.bool (decide (exI xs h k t q s v n < 0))))])) (toG []) 0 := by
  have hgk : 0 ≤ t ∧ t ≤ 1099511627776 ∧ 1 ≤ q ∧ q ≤ 4096 := by have h9 := of_decide_eq_true hg; omega
  refine Fun.mk (n := 76) Try.func15 rfl rfl (Nat.le_of_ble_eq_true rfl) ?_
  intro cx hcx
  refine AW.rgs [.no, .no] [0, 1, 5, 6] [0, 1] (P := True) (l' := [(0, .e (.c (.d (D.sl (fcD xs) n)))), (1, iV h), (5, rV 0 0), (6, rV 1 0)]) (g' := [(0, some (32, .ds [iD k, iD t, iD q, iD s, D.lit (.int .u64 v), iD f])), (1, some (41, .ds [iD 0, D.lit (.bool false)]))]) (nx' := 2) (by kernel_rfl) trivial ?_
  refine AW.rgs [.no, .no, .no] [0, 1, 5, 6, 7] [0, 1, 2] (P := True) (l' := [(0, .e (.c (.d (D.sl (fcD xs) n)))), (1, iV h), (5, rV 0 0), (6, rV 1 0), (7, rV 2 0)]) (g' := [(0, some (32, .ds [iD k, iD t, iD q, iD s, D.lit (.int .u64 v), iD f])), (1, some (41, .ds [iD 0, D.lit (.bool false)])), (2, some (41, .ds [iD (-1), D.lit (.bool true)]))]) (nx' := 3) (by kernel_rfl) trivial ?_
  refine AW.seq ?_
  refine AW.rgs [.no, .b false, .no, .no, .b false, .no, .no, .no, .call [] (bV true) [] 0 [] none, .no, .no] [0, 1, 5, 6, 7, 23] [0, 1, 2] (P := (¬ (h < 0)) ∧ (¬ ((1099511627776 : Int) < h)) ∧ (Fun 27 [.agg [iC k, iC t, iC q, iC s, .d (D.lit (.int .u64 v)), iC f]] (toG []) 0 (bV true) (toG []) 0)) (l' := [(0, .e (.c (.d (D.sl (fcD xs) n)))), (1, iV h), (5, rV 0 0), (6, rV 1 0), (7, rV 2 0), (23, bV false)]) (g' := [(0, some (32, .ds [iD k, iD t, iD q, iD s, D.lit (.int .u64 v), iD f])), (1, some (41, .ds [iD 0, D.lit (.bool false)])), (2, some (41, .ds [iD (-1), D.lit (.bool true)]))]) (nx' := 3) (by kernel_rfl) ⟨(by omega), (by omega), (by have h0 := (Z_Valid k t q s v f (by omega)); rw [hg] at h0; exact h0)⟩ ?_
  refine AW.cond_f (.tmp (Look.of rfl)) ?_
  refine AW.skip ?_
  refine AW.rgs [.no, .no, .no, .w, .no, .no, .no, .no, .w, .w, .no, .no] [0, 5, 6, 7, 8, 9] [0, 1, 2] (P := ((-9223372036854775808) ≤ (t - h) ∧ (t - h) ≤ 9223372036854775807) ∧ ((-9223372036854775808) ≤ (t + q) ∧ (t + q) ≤ 9223372036854775807) ∧ ((-9223372036854775808) ≤ ((t + q) - 1) ∧ ((t + q) - 1) ≤ 9223372036854775807)) (l' := [(0, .e (.c (.d (D.sl (fcD xs) n)))), (5, rV 0 0), (6, rV 1 0), (7, rV 2 0), (8, iV (t - h)), (9, iV ((t + q) - 1))]) (g' := [(0, some (32, .ds [iD k, iD t, iD q, iD s, D.lit (.int .u64 v), iD f])), (1, some (41, .ds [iD 0, D.lit (.bool false)])), (2, some (41, .ds [iD (-1), D.lit (.bool true)]))]) (nx' := 3) (by kernel_rfl) ⟨⟨by omega, by omega⟩, ⟨by omega, by omega⟩, ⟨by omega, by omega⟩⟩ ?_
  refine AW.seq ?_
  refine AW.rgs [.no, .no, .no] [0, 5, 6, 7, 8, 9, 35, 36, 37] [0, 1, 2] (P := True) (l' := [(0, .e (.c (.d (D.sl (fcD xs) n)))), (5, rV 0 0), (6, rV 1 0), (7, rV 2 0), (8, iV (t - h)), (9, iV ((t + q) - 1)), (35, .e (.c (.d (D.sl (fcD xs) n)))), (36, iV ↑n), (37, iV 0)]) (g' := [(0, some (32, .ds [iD k, iD t, iD q, iD s, D.lit (.int .u64 v), iD f])), (1, some (41, .ds [iD 0, D.lit (.bool false)])), (2, some (41, .ds [iD (-1), D.lit (.bool true)]))]) (nx' := 3) (by kernel_rfl) trivial ?_
  refine AW.block ?_
  refine AW.loopE 0 hcx (fun (x : {x : Nat × Bool // match x with | (i, g) => (i ≤ n) ∧ (fbP g (exI xs h k t q s v i))}) => match x with | ⟨(i, g), _⟩ => (⟨[(0, .e (.c (.d (D.sl (fcD xs) n)))), (5, rV 0 0), (6, rV 1 0), (7, rV 2 0), (8, iV (t - h)), (9, iV ((t + q) - 1)), (35, .e (.c (.d (D.sl (fcD xs) n)))), (36, iV ((n : Nat) : Int)), (37, iV ((i : Nat) : Int))], [(0, some (32, .ds [iD k, iD t, iD q, iD s, D.lit (.int .u64 v), iD f])), (1, some (41, .ds [iD 0, D.lit (.bool false)])), (2, some (41, .ds [iD (exI xs h k t q s v i), D.lit (.bool (g))]))], 3⟩ : ES)) (fun (x : {x : Nat × Bool // match x with | (i, g) => (i ≤ n) ∧ (fbP g (exI xs h k t q s v i))}) => match x with | ⟨(i, g), _⟩ => n - i) ⟨((0 : Nat), (true : Bool)), (show ((0 : Nat) ≤ n) ∧ (fbP true (exI xs h k t q s v (0 : Nat))) from ⟨(by first | omega | assumption | simp), fb_0⟩)⟩ [] (P := (((fcD xs) : List D) = (fcD xs)) ∧ ((n : Nat) = n) ∧ ((0 : Nat) = 0) ∧ ((0 : Nat) = 0) ∧ ((0 : Nat) = 0) ∧ (((t - h) : Int) = (t - h)) ∧ ((((t + q) - 1) : Int) = ((t + q) - 1)) ∧ (((fcD xs) : List D) = (fcD xs)) ∧ ((n : Nat) = n) ∧ ((((n : Nat) : Int) : Int) = ((n : Nat) : Int)) ∧ ((0 : Int) = 0) ∧ (([iD k, iD t, iD q, iD s, D.lit (.int .u64 v), iD f] : List D) = [iD k, iD t, iD q, iD s, D.lit (.int .u64 v), iD f]) ∧ (([iD 0, D.lit (.bool false)] : List D) = [iD 0, D.lit (.bool false)]) ∧ (([iD (exI xs h k t q s v 0), D.lit (.bool (true))] : List D) = [iD (-1), D.lit (.bool true)])) (by kernel_rfl) ⟨rfl, rfl, rfl, rfl, rfl, rfl, rfl, rfl, rfl, rfl, rfl, rfl, rfl, (by first | rfl | (refine congrArg (fun z => [iD z, D.lit (.bool _)]) ?_; omega))⟩ ?_
  rintro ⟨⟨i, g⟩, hinv0⟩
  obtain ⟨hi, hf⟩ : (i ≤ n) ∧ (fbP g (exI xs h k t q s v i)) := hinv0
  refine AW.es (l := [(0, .e (.c (.d (D.sl (fcD xs) n)))), (5, rV 0 0), (6, rV 1 0), (7, rV 2 0), (8, iV (t - h)), (9, iV ((t + q) - 1)), (35, .e (.c (.d (D.sl (fcD xs) n)))), (36, iV ((n : Nat) : Int)), (37, iV ((i : Nat) : Int))]) (g := [(0, some (32, .ds [iD k, iD t, iD q, iD s, D.lit (.int .u64 v), iD f])), (1, some (41, .ds [iD 0, D.lit (.bool false)])), (2, some (41, .ds [iD (exI xs h k t q s v i), D.lit (.bool (g))]))]) (nx := 3) rfl rfl rfl ?_
  have hxr : -1 ≤ exI xs h k t q s v i ∧ exI xs h k t q s v i < (i : Int) := ex_bd _ _ _ _ _ _ _ i
  by_cases hx1 : (((i : Nat) : Int) < ((n : Nat) : Int))
  · refine AW.rgs [.b true] [0, 5, 6, 7, 8, 9, 35, 36, 37, 38] [0, 1, 2] (P := ((((i : Nat) : Int) < ((n : Nat) : Int)))) (l' := [(0, .e (.c (.d (D.sl (fcD xs) n)))), (5, rV 0 0), (6, rV 1 0), (7, rV 2 0), (8, iV (t - h)), (9, iV ((t + q) - 1)), (35, .e (.c (.d (D.sl (fcD xs) n)))), (36, iV ↑n), (37, iV ↑i), (38, bV true)]) (g' := [(0, some (32, .ds [iD k, iD t, iD q, iD s, D.lit (.int .u64 v), iD f])), (1, some (41, .ds [iD 0, D.lit (.bool false)])), (2, some (41, .ds [iD (exI xs h k t q s v i), D.lit (.bool (g))]))]) (nx' := 3) (by kernel_rfl) (by omega) ?_
    refine AW.seq ?_
    refine AW.cond_t (.tmp (Look.of rfl)) ?_
    refine AW.skip ?_
    refine AW.seq ?_
    refine AW.block ?_
    refine AW.rgs [.no, .n i, .ds [iD (fq xs i 0), iD (fq xs i 1), iD (fq xs i 2), D.lit (.int .u64 (fq xs i 3))], .no, .no, .no] [0, 5, 6, 7, 8, 9, 10, 11, 35, 36, 37] [0, 1, 2, 3] (P := ((((i : Nat) : Int) : Int) = ((i : Nat) : Int)) ∧ (i < n) ∧ (List.take 4 (List.drop (i * 4) (fcD xs)) = [iD (fq xs i 0), iD (fq xs i 1), iD (fq xs i 2), D.lit (.int .u64 (fq xs i 3))]) ∧ (([iD (fq xs i 0), iD (fq xs i 1), iD (fq xs i 2), D.lit (.int .u64 (fq xs i 3))] : List D).length = 4)) (l' := [(0, .e (.c (.d (D.sl (fcD xs) n)))), (5, rV 0 0), (6, rV 1 0), (7, rV 2 0), (8, iV (t - h)), (9, iV ((t + q) - 1)), (10, iV ↑i), (11, rV 3 0), (35, .e (.c (.d (D.sl (fcD xs) n)))), (36, iV ↑n), (37, iV ↑i)]) (g' := [(0, some (32, .ds [iD k, iD t, iD q, iD s, D.lit (.int .u64 v), iD f])), (1, some (41, .ds [iD 0, D.lit (.bool false)])), (2, some (41, .ds [iD (exI xs h k t q s v i), D.lit (.bool (g))])), (3, some (45, .ds [iD (fq xs i 0), iD (fq xs i 1), iD (fq xs i 2), D.lit (.int .u64 (fq xs i 3))]))]) (nx' := 4) (by kernel_rfl) ⟨rfl, (by omega), (fc_at (by first | omega | (simp only [fcD_len, List.length_append, List.length_cons, List.length_nil, List.length_take, List.length_drop] <;> omega))), rfl⟩ ?_
    by_cases hx2 : ((t - h) ≤ (fq xs i 1))
    · by_cases hx3 : ((fq xs i 1) ≤ ((t + q) - 1))
      · rcases Bool.eq_false_or_eq_true (g) with hx4 | hx4
        · subst hx4
          have hx5 : exI xs h k t q s v i < 0 := fb_t hf
          rcases Bool.eq_false_or_eq_true (reB (fq xs i 0) (fq xs i 2) (fq xs i 3) k s v) with hx6 | hx6
          · have hx7 : exI xs h k t q s v (i + 1) = (i : Int) := ex_yes (by omega) (by omega) (by omega) hx6
            refine AW.rgs [.no, .no, .no, .b true, .no, .no, .no, .no, .b true, .no, .no, .no, .no, .no, .no, .no, .no, .no, .no, .call [] (bV true) [] 0 [] none, .no] [0, 5, 6, 7, 8, 9, 10, 35, 36, 37, 71] [0, 1, 2] (P := (((t - h) ≤ (fq xs i 1))) ∧ (((fq xs i 1) ≤ ((t + q) - 1))) ∧ (Fun 16 [.agg [iC (fq xs i 0), iC (fq xs i 1), iC (fq xs i 2), .d (D.lit (.int .u64 (fq xs i 3)))], .agg [iC k, iC t, iC q, iC s, .d (D.lit (.int .u64 v)), iC f]] (toG []) 0 (bV true) (toG []) 0)) (l' := [(0, .e (.c (.d (D.sl (fcD xs) n)))), (5, rV 0 0), (6, rV 1 0), (7, rV 2 0), (8, iV (t - h)), (9, iV ((t + q) - 1)), (10, iV ↑i), (35, .e (.c (.d (D.sl (fcD xs) n)))), (36, iV ↑n), (37, iV ↑i), (71, bV true)]) (g' := [(0, some (32, .ds [iD k, iD t, iD q, iD s, D.lit (.int .u64 v), iD f])), (1, some (41, .ds [iD 0, D.lit (.bool false)])), (2, some (41, .ds [iD (exI xs h k t q s v i), D.lit (.bool true)]))]) (nx' := 4) (by kernel_rfl) ⟨(by omega), (by omega), (by have h0 := (Z_Rel (fq xs i 0) (fq xs i 1) (fq xs i 2) (fq xs i 3) k t q s v f (by omega) hg); rw [hx6] at h0; exact h0)⟩ ?_
            refine AW.cond_t (.tmp (Look.of rfl)) ?_
            refine AW.rg [.no, .no, .no] [0, 5, 6, 7, 8, 9, 35, 36, 37] [0, 1, 2] (P := True) (l' := [(0, .e (.c (.d (D.sl (fcD xs) n)))), (5, rV 0 0), (6, rV 1 0), (7, rV 2 0), (8, iV (t - h)), (9, iV ((t + q) - 1)), (35, .e (.c (.d (D.sl (fcD xs) n)))), (36, iV ↑n), (37, iV ↑i)]) (g' := [(0, some (32, .ds [iD k, iD t, iD q, iD s, D.lit (.int .u64 v), iD f])), (1, some (41, .ds [iD 0, D.lit (.bool false)])), (2, some (41, .ds [iD ↑i, D.lit (.bool false)]))]) (nx' := 4) (by kernel_rfl) trivial ?_
            refine AW.rg [.w, .no] [0, 5, 6, 7, 8, 9, 35, 36, 37] [0, 1, 2] (P := ((-9223372036854775808) ≤ (((i : Nat) : Int) + 1) ∧ (((i : Nat) : Int) + 1) ≤ 9223372036854775807)) (l' := [(0, .e (.c (.d (D.sl (fcD xs) n)))), (5, rV 0 0), (6, rV 1 0), (7, rV 2 0), (8, iV (t - h)), (9, iV ((t + q) - 1)), (35, .e (.c (.d (D.sl (fcD xs) n)))), (36, iV ↑n), (37, iV (↑i + 1))]) (g' := [(0, some (32, .ds [iD k, iD t, iD q, iD s, D.lit (.int .u64 v), iD f])), (1, some (41, .ds [iD 0, D.lit (.bool false)])), (2, some (41, .ds [iD ↑i, D.lit (.bool false)]))]) (nx' := 4) (by kernel_rfl) ⟨by omega, by omega⟩ ?_
            exact Rd.of ⟨(((i + 1) : Nat), (false : Bool)), (show ((i + 1) ≤ n) ∧ (fbP false (exI xs h k t q s v (i + 1))) from ⟨(by first | omega | assumption | simp), (by first | exact fb_n (by omega) | exact fb_c hf (by omega))⟩)⟩ [] (P := (((fcD xs) : List D) = (fcD xs)) ∧ ((n : Nat) = n) ∧ ((0 : Nat) = 0) ∧ ((0 : Nat) = 0) ∧ ((0 : Nat) = 0) ∧ (((t - h) : Int) = (t - h)) ∧ ((((t + q) - 1) : Int) = ((t + q) - 1)) ∧ (((fcD xs) : List D) = (fcD xs)) ∧ ((n : Nat) = n) ∧ ((((n : Nat) : Int) : Int) = ((n : Nat) : Int)) ∧ (((((i + 1) : Nat) : Int) : Int) = (((i : Nat) : Int) + 1)) ∧ (([iD k, iD t, iD q, iD s, D.lit (.int .u64 v), iD f] : List D) = [iD k, iD t, iD q, iD s, D.lit (.int .u64 v), iD f]) ∧ (([iD 0, D.lit (.bool false)] : List D) = [iD 0, D.lit (.bool false)]) ∧ (([iD (exI xs h k t q s v (i + 1)), D.lit (.bool (false))] : List D) = [iD ((i : Nat) : Int), D.lit (.bool false)])) (by kernel_rfl) ⟨rfl, rfl, rfl, rfl, rfl, rfl, rfl, rfl, rfl, rfl, (by first | rfl | omega | assumption | (simp; done) | (simp; omega)), rfl, rfl, (by first | rfl | (refine congrArg (fun z => [iD z, D.lit (.bool _)]) ?_; omega))⟩ (show n - (i + 1) < n - i from (by first | omega | (show _ < _; simp; omega)))
          · have hx8 : exI xs h k t q s v (i + 1) = exI xs h k t q s v i := ex_nr hx6
            refine AW.rgs [.no, .no, .no, .b true, .no, .no, .no, .no, .b true, .no, .no, .no, .no, .no, .no, .no, .no, .no, .no, .call [] (bV false) [] 0 [] none, .no] [0, 5, 6, 7, 8, 9, 10, 35, 36, 37, 71] [0, 1, 2] (P := (((t - h) ≤ (fq xs i 1))) ∧ (((fq xs i 1) ≤ ((t + q) - 1))) ∧ (Fun 16 [.agg [iC (fq xs i 0), iC (fq xs i 1), iC (fq xs i 2), .d (D.lit (.int .u64 (fq xs i 3)))], .agg [iC k, iC t, iC q, iC s, .d (D.lit (.int .u64 v)), iC f]] (toG []) 0 (bV false) (toG []) 0)) (l' := [(0, .e (.c (.d (D.sl (fcD xs) n)))), (5, rV 0 0), (6, rV 1 0), (7, rV 2 0), (8, iV (t - h)), (9, iV ((t + q) - 1)), (10, iV ↑i), (35, .e (.c (.d (D.sl (fcD xs) n)))), (36, iV ↑n), (37, iV ↑i), (71, bV false)]) (g' := [(0, some (32, .ds [iD k, iD t, iD q, iD s, D.lit (.int .u64 v), iD f])), (1, some (41, .ds [iD 0, D.lit (.bool false)])), (2, some (41, .ds [iD (exI xs h k t q s v i), D.lit (.bool true)]))]) (nx' := 4) (by kernel_rfl) ⟨(by omega), (by omega), (by have h0 := (Z_Rel (fq xs i 0) (fq xs i 1) (fq xs i 2) (fq xs i 3) k t q s v f (by omega) hg); rw [hx6] at h0; exact h0)⟩ ?_
            refine AW.cond_f (.tmp (Look.of rfl)) ?_
            refine AW.skip ?_
            refine AW.rg [.w, .no] [0, 5, 6, 7, 8, 9, 35, 36, 37] [0, 1, 2] (P := ((-9223372036854775808) ≤ (((i : Nat) : Int) + 1) ∧ (((i : Nat) : Int) + 1) ≤ 9223372036854775807)) (l' := [(0, .e (.c (.d (D.sl (fcD xs) n)))), (5, rV 0 0), (6, rV 1 0), (7, rV 2 0), (8, iV (t - h)), (9, iV ((t + q) - 1)), (35, .e (.c (.d (D.sl (fcD xs) n)))), (36, iV ↑n), (37, iV (↑i + 1))]) (g' := [(0, some (32, .ds [iD k, iD t, iD q, iD s, D.lit (.int .u64 v), iD f])), (1, some (41, .ds [iD 0, D.lit (.bool false)])), (2, some (41, .ds [iD (exI xs h k t q s v i), D.lit (.bool true)]))]) (nx' := 4) (by kernel_rfl) ⟨by omega, by omega⟩ ?_
            exact Rd.of ⟨(((i + 1) : Nat), (true : Bool)), (show ((i + 1) ≤ n) ∧ (fbP true (exI xs h k t q s v (i + 1))) from ⟨(by first | omega | assumption | simp), (by first | exact fb_n (by omega) | exact fb_c hf (by omega))⟩)⟩ [] (P := (((fcD xs) : List D) = (fcD xs)) ∧ ((n : Nat) = n) ∧ ((0 : Nat) = 0) ∧ ((0 : Nat) = 0) ∧ ((0 : Nat) = 0) ∧ (((t - h) : Int) = (t - h)) ∧ ((((t + q) - 1) : Int) = ((t + q) - 1)) ∧ (((fcD xs) : List D) = (fcD xs)) ∧ ((n : Nat) = n) ∧ ((((n : Nat) : Int) : Int) = ((n : Nat) : Int)) ∧ (((((i + 1) : Nat) : Int) : Int) = (((i : Nat) : Int) + 1)) ∧ (([iD k, iD t, iD q, iD s, D.lit (.int .u64 v), iD f] : List D) = [iD k, iD t, iD q, iD s, D.lit (.int .u64 v), iD f]) ∧ (([iD 0, D.lit (.bool false)] : List D) = [iD 0, D.lit (.bool false)]) ∧ (([iD (exI xs h k t q s v (i + 1)), D.lit (.bool (true))] : List D) = [iD (exI xs h k t q s v i), D.lit (.bool true)])) (by kernel_rfl) ⟨rfl, rfl, rfl, rfl, rfl, rfl, rfl, rfl, rfl, rfl, (by first | rfl | omega | assumption | (simp; done) | (simp; omega)), rfl, rfl, (by first | rfl | (refine congrArg (fun z => [iD z, D.lit (.bool _)]) ?_; omega))⟩ (show n - (i + 1) < n - i from (by first | omega | (show _ < _; simp; omega)))
        · subst hx4
          have hx9 : 0 ≤ exI xs h k t q s v i := fb_f hf
          by_cases hx10 : ((fq xs i 1) < (fq xs (Int.toNat (exI xs h k t q s v i)) 1))
          · rcases Bool.eq_false_or_eq_true (reB (fq xs i 0) (fq xs i 2) (fq xs i 3) k s v) with hx11 | hx11
            · have hx12 : exI xs h k t q s v (i + 1) = (i : Int) := ex_yes (by omega) (by omega) (by omega) hx11
              refine AW.rgs [.no, .no, .no, .b true, .no, .no, .no, .no, .b true, .no, .no, .no, .no, .no, .no, .no, .no, .no, .no, .n (Int.toNat (exI xs h k t q s v i)), .no, .d (iD (fq xs (Int.toNat (exI xs h k t q s v i)) 1)), .b true, .no, .no, .no, .no, .no, .call [] (bV true) [] 0 [] none, .no] [0, 5, 6, 7, 8, 9, 10, 35, 36, 37, 71] [0, 1, 2] (P := (((t - h) ≤ (fq xs i 1))) ∧ (((fq xs i 1) ≤ ((t + q) - 1))) ∧ (((exI xs h k t q s v i) : Int) = (((Int.toNat (exI xs h k t q s v i)) : Nat) : Int)) ∧ ((Int.toNat (exI xs h k t q s v i)) < n) ∧ ((List.drop 1 (List.drop ((Int.toNat (exI xs h k t q s v i)) * 4) (fcD xs)))[0]? = some (iD (fq xs (Int.toNat (exI xs h k t q s v i)) 1))) ∧ (((fq xs i 1) < (fq xs (Int.toNat (exI xs h k t q s v i)) 1))) ∧ (Fun 16 [.agg [iC (fq xs i 0), iC (fq xs i 1), iC (fq xs i 2), .d (D.lit (.int .u64 (fq xs i 3)))], .agg [iC k, iC t, iC q, iC s, .d (D.lit (.int .u64 v)), iC f]] (toG []) 0 (bV true) (toG []) 0)) (l' := [(0, .e (.c (.d (D.sl (fcD xs) n)))), (5, rV 0 0), (6, rV 1 0), (7, rV 2 0), (8, iV (t - h)), (9, iV ((t + q) - 1)), (10, iV ↑i), (35, .e (.c (.d (D.sl (fcD xs) n)))), (36, iV ↑n), (37, iV ↑i), (71, bV true)]) (g' := [(0, some (32, .ds [iD k, iD t, iD q, iD s, D.lit (.int .u64 v), iD f])), (1, some (41, .ds [iD 0, D.lit (.bool false)])), (2, some (41, .ds [iD (exI xs h k t q s v i), D.lit (.bool false)]))]) (nx' := 4) (by kernel_rfl) ⟨(by omega), (by omega), (by first | rfl | omega), (by omega), (by first | (rw [List.drop_drop]; exact (fc_t0 (by first | omega | (simp only [fcD_len, List.length_append, List.length_cons, List.length_nil, List.length_take, List.length_drop] <;> omega)))) | (rw [List.drop_drop, Nat.add_comm]; exact (fc_t0 (by first | omega | (simp only [fcD_len, List.length_append, List.length_cons, List.length_nil, List.length_take, List.length_drop] <;> omega))))), (by omega), (by have h0 := (Z_Rel (fq xs i 0) (fq xs i 1) (fq xs i 2) (fq xs i 3) k t q s v f (by omega) hg); rw [hx11] at h0; exact h0)⟩ ?_
              refine AW.cond_t (.tmp (Look.of rfl)) ?_
              refine AW.rg [.no, .no, .no] [0, 5, 6, 7, 8, 9, 35, 36, 37] [0, 1, 2] (P := True) (l' := [(0, .e (.c (.d (D.sl (fcD xs) n)))), (5, rV 0 0), (6, rV 1 0), (7, rV 2 0), (8, iV (t - h)), (9, iV ((t + q) - 1)), (35, .e (.c (.d (D.sl (fcD xs) n)))), (36, iV ↑n), (37, iV ↑i)]) (g' := [(0, some (32, .ds [iD k, iD t, iD q, iD s, D.lit (.int .u64 v), iD f])), (1, some (41, .ds [iD 0, D.lit (.bool false)])), (2, some (41, .ds [iD ↑i, D.lit (.bool false)]))]) (nx' := 4) (by kernel_rfl) trivial ?_
              refine AW.rg [.w, .no] [0, 5, 6, 7, 8, 9, 35, 36, 37] [0, 1, 2] (P := ((-9223372036854775808) ≤ (((i : Nat) : Int) + 1) ∧ (((i : Nat) : Int) + 1) ≤ 9223372036854775807)) (l' := [(0, .e (.c (.d (D.sl (fcD xs) n)))), (5, rV 0 0), (6, rV 1 0), (7, rV 2 0), (8, iV (t - h)), (9, iV ((t + q) - 1)), (35, .e (.c (.d (D.sl (fcD xs) n)))), (36, iV ↑n), (37, iV (↑i + 1))]) (g' := [(0, some (32, .ds [iD k, iD t, iD q, iD s, D.lit (.int .u64 v), iD f])), (1, some (41, .ds [iD 0, D.lit (.bool false)])), (2, some (41, .ds [iD ↑i, D.lit (.bool false)]))]) (nx' := 4) (by kernel_rfl) ⟨by omega, by omega⟩ ?_
              exact Rd.of ⟨(((i + 1) : Nat), (false : Bool)), (show ((i + 1) ≤ n) ∧ (fbP false (exI xs h k t q s v (i + 1))) from ⟨(by first | omega | assumption | simp), (by first | exact fb_n (by omega) | exact fb_c hf (by omega))⟩)⟩ [] (P := (((fcD xs) : List D) = (fcD xs)) ∧ ((n : Nat) = n) ∧ ((0 : Nat) = 0) ∧ ((0 : Nat) = 0) ∧ ((0 : Nat) = 0) ∧ (((t - h) : Int) = (t - h)) ∧ ((((t + q) - 1) : Int) = ((t + q) - 1)) ∧ (((fcD xs) : List D) = (fcD xs)) ∧ ((n : Nat) = n) ∧ ((((n : Nat) : Int) : Int) = ((n : Nat) : Int)) ∧ (((((i + 1) : Nat) : Int) : Int) = (((i : Nat) : Int) + 1)) ∧ (([iD k, iD t, iD q, iD s, D.lit (.int .u64 v), iD f] : List D) = [iD k, iD t, iD q, iD s, D.lit (.int .u64 v), iD f]) ∧ (([iD 0, D.lit (.bool false)] : List D) = [iD 0, D.lit (.bool false)]) ∧ (([iD (exI xs h k t q s v (i + 1)), D.lit (.bool (false))] : List D) = [iD ((i : Nat) : Int), D.lit (.bool false)])) (by kernel_rfl) ⟨rfl, rfl, rfl, rfl, rfl, rfl, rfl, rfl, rfl, rfl, (by first | rfl | omega | assumption | (simp; done) | (simp; omega)), rfl, rfl, (by first | rfl | (refine congrArg (fun z => [iD z, D.lit (.bool _)]) ?_; omega))⟩ (show n - (i + 1) < n - i from (by first | omega | (show _ < _; simp; omega)))
            · have hx13 : exI xs h k t q s v (i + 1) = exI xs h k t q s v i := ex_nr hx11
              refine AW.rgs [.no, .no, .no, .b true, .no, .no, .no, .no, .b true, .no, .no, .no, .no, .no, .no, .no, .no, .no, .no, .n (Int.toNat (exI xs h k t q s v i)), .no, .d (iD (fq xs (Int.toNat (exI xs h k t q s v i)) 1)), .b true, .no, .no, .no, .no, .no, .call [] (bV false) [] 0 [] none, .no] [0, 5, 6, 7, 8, 9, 10, 35, 36, 37, 71] [0, 1, 2] (P := (((t - h) ≤ (fq xs i 1))) ∧ (((fq xs i 1) ≤ ((t + q) - 1))) ∧ (((exI xs h k t q s v i) : Int) = (((Int.toNat (exI xs h k t q s v i)) : Nat) : Int)) ∧ ((Int.toNat (exI xs h k t q s v i)) < n) ∧ ((List.drop 1 (List.drop ((Int.toNat (exI xs h k t q s v i)) * 4) (fcD xs)))[0]? = some (iD (fq xs (Int.toNat (exI xs h k t q s v i)) 1))) ∧ (((fq xs i 1) < (fq xs (Int.toNat (exI xs h k t q s v i)) 1))) ∧ (Fun 16 [.agg [iC (fq xs i 0), iC (fq xs i 1), iC (fq xs i 2), .d (D.lit (.int .u64 (fq xs i 3)))], .agg [iC k, iC t, iC q, iC s, .d (D.lit (.int .u64 v)), iC f]] (toG []) 0 (bV false) (toG []) 0)) (l' := [(0, .e (.c (.d (D.sl (fcD xs) n)))), (5, rV 0 0), (6, rV 1 0), (7, rV 2 0), (8, iV (t - h)), (9, iV ((t + q) - 1)), (10, iV ↑i), (35, .e (.c (.d (D.sl (fcD xs) n)))), (36, iV ↑n), (37, iV ↑i), (71, bV false)]) (g' := [(0, some (32, .ds [iD k, iD t, iD q, iD s, D.lit (.int .u64 v), iD f])), (1, some (41, .ds [iD 0, D.lit (.bool false)])), (2, some (41, .ds [iD (exI xs h k t q s v i), D.lit (.bool false)]))]) (nx' := 4) (by kernel_rfl) ⟨(by omega), (by omega), (by first | rfl | omega), (by omega), (by first | (rw [List.drop_drop]; exact (fc_t0 (by first | omega | (simp only [fcD_len, List.length_append, List.length_cons, List.length_nil, List.length_take, List.length_drop] <;> omega)))) | (rw [List.drop_drop, Nat.add_comm]; exact (fc_t0 (by first | omega | (simp only [fcD_len, List.length_append, List.length_cons, List.length_nil, List.length_take, List.length_drop] <;> omega))))), (by omega), (by have h0 := (Z_Rel (fq xs i 0) (fq xs i 1) (fq xs i 2) (fq xs i 3) k t q s v f (by omega) hg); rw [hx11] at h0; exact h0)⟩ ?_
              refine AW.cond_f (.tmp (Look.of rfl)) ?_
              refine AW.skip ?_
              refine AW.rg [.w, .no] [0, 5, 6, 7, 8, 9, 35, 36, 37] [0, 1, 2] (P := ((-9223372036854775808) ≤ (((i : Nat) : Int) + 1) ∧ (((i : Nat) : Int) + 1) ≤ 9223372036854775807)) (l' := [(0, .e (.c (.d (D.sl (fcD xs) n)))), (5, rV 0 0), (6, rV 1 0), (7, rV 2 0), (8, iV (t - h)), (9, iV ((t + q) - 1)), (35, .e (.c (.d (D.sl (fcD xs) n)))), (36, iV ↑n), (37, iV (↑i + 1))]) (g' := [(0, some (32, .ds [iD k, iD t, iD q, iD s, D.lit (.int .u64 v), iD f])), (1, some (41, .ds [iD 0, D.lit (.bool false)])), (2, some (41, .ds [iD (exI xs h k t q s v i), D.lit (.bool false)]))]) (nx' := 4) (by kernel_rfl) ⟨by omega, by omega⟩ ?_
              exact Rd.of ⟨(((i + 1) : Nat), (false : Bool)), (show ((i + 1) ≤ n) ∧ (fbP false (exI xs h k t q s v (i + 1))) from ⟨(by first | omega | assumption | simp), (by first | exact fb_n (by omega) | exact fb_c hf (by omega))⟩)⟩ [] (P := (((fcD xs) : List D) = (fcD xs)) ∧ ((n : Nat) = n) ∧ ((0 : Nat) = 0) ∧ ((0 : Nat) = 0) ∧ ((0 : Nat) = 0) ∧ (((t - h) : Int) = (t - h)) ∧ ((((t + q) - 1) : Int) = ((t + q) - 1)) ∧ (((fcD xs) : List D) = (fcD xs)) ∧ ((n : Nat) = n) ∧ ((((n : Nat) : Int) : Int) = ((n : Nat) : Int)) ∧ (((((i + 1) : Nat) : Int) : Int) = (((i : Nat) : Int) + 1)) ∧ (([iD k, iD t, iD q, iD s, D.lit (.int .u64 v), iD f] : List D) = [iD k, iD t, iD q, iD s, D.lit (.int .u64 v), iD f]) ∧ (([iD 0, D.lit (.bool false)] : List D) = [iD 0, D.lit (.bool false)]) ∧ (([iD (exI xs h k t q s v (i + 1)), D.lit (.bool (false))] : List D) = [iD (exI xs h k t q s v i), D.lit (.bool false)])) (by kernel_rfl) ⟨rfl, rfl, rfl, rfl, rfl, rfl, rfl, rfl, rfl, rfl, (by first | rfl | omega | assumption | (simp; done) | (simp; omega)), rfl, rfl, (by first | rfl | (refine congrArg (fun z => [iD z, D.lit (.bool _)]) ?_; omega))⟩ (show n - (i + 1) < n - i from (by first | omega | (show _ < _; simp; omega)))
          · refine AW.rgs [.no, .no, .no, .b true, .no, .no, .no, .no, .b true, .no, .no, .no, .no, .no, .no, .no, .no, .no, .no, .n (Int.toNat (exI xs h k t q s v i)), .no, .d (iD (fq xs (Int.toNat (exI xs h k t q s v i)) 1)), .b false, .no, .no, .no, .no] [0, 5, 6, 7, 8, 9, 10, 35, 36, 37, 71] [0, 1, 2] (P := (((t - h) ≤ (fq xs i 1))) ∧ (((fq xs i 1) ≤ ((t + q) - 1))) ∧ (((exI xs h k t q s v i) : Int) = (((Int.toNat (exI xs h k t q s v i)) : Nat) : Int)) ∧ ((Int.toNat (exI xs h k t q s v i)) < n) ∧ ((List.drop 1 (List.drop ((Int.toNat (exI xs h k t q s v i)) * 4) (fcD xs)))[0]? = some (iD (fq xs (Int.toNat (exI xs h k t q s v i)) 1))) ∧ (¬ ((fq xs i 1) < (fq xs (Int.toNat (exI xs h k t q s v i)) 1)))) (l' := [(0, .e (.c (.d (D.sl (fcD xs) n)))), (5, rV 0 0), (6, rV 1 0), (7, rV 2 0), (8, iV (t - h)), (9, iV ((t + q) - 1)), (10, iV ↑i), (35, .e (.c (.d (D.sl (fcD xs) n)))), (36, iV ↑n), (37, iV ↑i), (71, bV false)]) (g' := [(0, some (32, .ds [iD k, iD t, iD q, iD s, D.lit (.int .u64 v), iD f])), (1, some (41, .ds [iD 0, D.lit (.bool false)])), (2, some (41, .ds [iD (exI xs h k t q s v i), D.lit (.bool false)]))]) (nx' := 4) (by kernel_rfl) ⟨(by omega), (by omega), (by first | rfl | omega), (by omega), (by first | (rw [List.drop_drop]; exact (fc_t0 (by first | omega | (simp only [fcD_len, List.length_append, List.length_cons, List.length_nil, List.length_take, List.length_drop] <;> omega)))) | (rw [List.drop_drop, Nat.add_comm]; exact (fc_t0 (by first | omega | (simp only [fcD_len, List.length_append, List.length_cons, List.length_nil, List.length_take, List.length_drop] <;> omega))))), (by omega)⟩ ?_
            refine AW.cond_f (.tmp (Look.of rfl)) ?_
            refine AW.skip ?_
            have hx14 : exI xs h k t q s v (i + 1) = exI xs h k t q s v i := ex_no (by omega)
            refine AW.rg [.w, .no] [0, 5, 6, 7, 8, 9, 35, 36, 37] [0, 1, 2] (P := ((-9223372036854775808) ≤ (((i : Nat) : Int) + 1) ∧ (((i : Nat) : Int) + 1) ≤ 9223372036854775807)) (l' := [(0, .e (.c (.d (D.sl (fcD xs) n)))), (5, rV 0 0), (6, rV 1 0), (7, rV 2 0), (8, iV (t - h)), (9, iV ((t + q) - 1)), (35, .e (.c (.d (D.sl (fcD xs) n)))), (36, iV ↑n), (37, iV (↑i + 1))]) (g' := [(0, some (32, .ds [iD k, iD t, iD q, iD s, D.lit (.int .u64 v), iD f])), (1, some (41, .ds [iD 0, D.lit (.bool false)])), (2, some (41, .ds [iD (exI xs h k t q s v i), D.lit (.bool false)]))]) (nx' := 4) (by kernel_rfl) ⟨by omega, by omega⟩ ?_
            exact Rd.of ⟨(((i + 1) : Nat), (false : Bool)), (show ((i + 1) ≤ n) ∧ (fbP false (exI xs h k t q s v (i + 1))) from ⟨(by first | omega | assumption | simp), (by first | exact fb_n (by omega) | exact fb_c hf (by omega))⟩)⟩ [] (P := (((fcD xs) : List D) = (fcD xs)) ∧ ((n : Nat) = n) ∧ ((0 : Nat) = 0) ∧ ((0 : Nat) = 0) ∧ ((0 : Nat) = 0) ∧ (((t - h) : Int) = (t - h)) ∧ ((((t + q) - 1) : Int) = ((t + q) - 1)) ∧ (((fcD xs) : List D) = (fcD xs)) ∧ ((n : Nat) = n) ∧ ((((n : Nat) : Int) : Int) = ((n : Nat) : Int)) ∧ (((((i + 1) : Nat) : Int) : Int) = (((i : Nat) : Int) + 1)) ∧ (([iD k, iD t, iD q, iD s, D.lit (.int .u64 v), iD f] : List D) = [iD k, iD t, iD q, iD s, D.lit (.int .u64 v), iD f]) ∧ (([iD 0, D.lit (.bool false)] : List D) = [iD 0, D.lit (.bool false)]) ∧ (([iD (exI xs h k t q s v (i + 1)), D.lit (.bool (false))] : List D) = [iD (exI xs h k t q s v i), D.lit (.bool false)])) (by kernel_rfl) ⟨rfl, rfl, rfl, rfl, rfl, rfl, rfl, rfl, rfl, rfl, (by first | rfl | omega | assumption | (simp; done) | (simp; omega)), rfl, rfl, (by first | rfl | (refine congrArg (fun z => [iD z, D.lit (.bool _)]) ?_; omega))⟩ (show n - (i + 1) < n - i from (by first | omega | (show _ < _; simp; omega)))
      · refine AW.rgs [.no, .no, .no, .b true, .no, .no, .no, .no, .b false, .no, .no, .no, .no, .no] [0, 5, 6, 7, 8, 9, 10, 35, 36, 37, 71] [0, 1, 2] (P := (((t - h) ≤ (fq xs i 1))) ∧ (¬ ((fq xs i 1) ≤ ((t + q) - 1)))) (l' := [(0, .e (.c (.d (D.sl (fcD xs) n)))), (5, rV 0 0), (6, rV 1 0), (7, rV 2 0), (8, iV (t - h)), (9, iV ((t + q) - 1)), (10, iV ↑i), (35, .e (.c (.d (D.sl (fcD xs) n)))), (36, iV ↑n), (37, iV ↑i), (71, bV false)]) (g' := [(0, some (32, .ds [iD k, iD t, iD q, iD s, D.lit (.int .u64 v), iD f])), (1, some (41, .ds [iD 0, D.lit (.bool false)])), (2, some (41, .ds [iD (exI xs h k t q s v i), D.lit (.bool (g))]))]) (nx' := 4) (by kernel_rfl) ⟨(by omega), (by omega)⟩ ?_
        refine AW.cond_f (.tmp (Look.of rfl)) ?_
        refine AW.skip ?_
        have hx15 : exI xs h k t q s v (i + 1) = exI xs h k t q s v i := ex_no (by omega)
        refine AW.rg [.w, .no] [0, 5, 6, 7, 8, 9, 35, 36, 37] [0, 1, 2] (P := ((-9223372036854775808) ≤ (((i : Nat) : Int) + 1) ∧ (((i : Nat) : Int) + 1) ≤ 9223372036854775807)) (l' := [(0, .e (.c (.d (D.sl (fcD xs) n)))), (5, rV 0 0), (6, rV 1 0), (7, rV 2 0), (8, iV (t - h)), (9, iV ((t + q) - 1)), (35, .e (.c (.d (D.sl (fcD xs) n)))), (36, iV ↑n), (37, iV (↑i + 1))]) (g' := [(0, some (32, .ds [iD k, iD t, iD q, iD s, D.lit (.int .u64 v), iD f])), (1, some (41, .ds [iD 0, D.lit (.bool false)])), (2, some (41, .ds [iD (exI xs h k t q s v i), D.lit (.bool (g))]))]) (nx' := 4) (by kernel_rfl) ⟨by omega, by omega⟩ ?_
        exact Rd.of ⟨(((i + 1) : Nat), ((g) : Bool)), (show ((i + 1) ≤ n) ∧ (fbP (g) (exI xs h k t q s v (i + 1))) from ⟨(by first | omega | assumption | simp), (by first | exact fb_n (by omega) | exact fb_c hf (by omega))⟩)⟩ [] (P := (((fcD xs) : List D) = (fcD xs)) ∧ ((n : Nat) = n) ∧ ((0 : Nat) = 0) ∧ ((0 : Nat) = 0) ∧ ((0 : Nat) = 0) ∧ (((t - h) : Int) = (t - h)) ∧ ((((t + q) - 1) : Int) = ((t + q) - 1)) ∧ (((fcD xs) : List D) = (fcD xs)) ∧ ((n : Nat) = n) ∧ ((((n : Nat) : Int) : Int) = ((n : Nat) : Int)) ∧ (((((i + 1) : Nat) : Int) : Int) = (((i : Nat) : Int) + 1)) ∧ (([iD k, iD t, iD q, iD s, D.lit (.int .u64 v), iD f] : List D) = [iD k, iD t, iD q, iD s, D.lit (.int .u64 v), iD f]) ∧ (([iD 0, D.lit (.bool false)] : List D) = [iD 0, D.lit (.bool false)]) ∧ (([iD (exI xs h k t q s v (i + 1)), D.lit (.bool ((g)))] : List D) = [iD (exI xs h k t q s v i), D.lit (.bool (g))])) (by kernel_rfl) ⟨rfl, rfl, rfl, rfl, rfl, rfl, rfl, rfl, rfl, rfl, (by first | rfl | omega | assumption | (simp; done) | (simp; omega)), rfl, rfl, (by first | rfl | (refine congrArg (fun z => [iD z, D.lit (.bool _)]) ?_; omega))⟩ (show n - (i + 1) < n - i from (by first | omega | (show _ < _; simp; omega)))
    · refine AW.rgs [.no, .no, .no, .b false, .no, .no, .no, .no, .no, .no] [0, 5, 6, 7, 8, 9, 10, 35, 36, 37, 71] [0, 1, 2] (P := (¬ ((t - h) ≤ (fq xs i 1)))) (l' := [(0, .e (.c (.d (D.sl (fcD xs) n)))), (5, rV 0 0), (6, rV 1 0), (7, rV 2 0), (8, iV (t - h)), (9, iV ((t + q) - 1)), (10, iV ↑i), (35, .e (.c (.d (D.sl (fcD xs) n)))), (36, iV ↑n), (37, iV ↑i), (71, bV false)]) (g' := [(0, some (32, .ds [iD k, iD t, iD q, iD s, D.lit (.int .u64 v), iD f])), (1, some (41, .ds [iD 0, D.lit (.bool false)])), (2, some (41, .ds [iD (exI xs h k t q s v i), D.lit (.bool (g))]))]) (nx' := 4) (by kernel_rfl) (by omega) ?_
      refine AW.cond_f (.tmp (Look.of rfl)) ?_
      refine AW.skip ?_
      have hx16 : exI xs h k t q s v (i + 1) = exI xs h k t q s v i := ex_no (by omega)
      refine AW.rg [.w, .no] [0, 5, 6, 7, 8, 9, 35, 36, 37] [0, 1, 2] (P := ((-9223372036854775808) ≤ (((i : Nat) : Int) + 1) ∧ (((i : Nat) : Int) + 1) ≤ 9223372036854775807)) (l' := [(0, .e (.c (.d (D.sl (fcD xs) n)))), (5, rV 0 0), (6, rV 1 0), (7, rV 2 0), (8, iV (t - h)), (9, iV ((t + q) - 1)), (35, .e (.c (.d (D.sl (fcD xs) n)))), (36, iV ↑n), (37, iV (↑i + 1))]) (g' := [(0, some (32, .ds [iD k, iD t, iD q, iD s, D.lit (.int .u64 v), iD f])), (1, some (41, .ds [iD 0, D.lit (.bool false)])), (2, some (41, .ds [iD (exI xs h k t q s v i), D.lit (.bool (g))]))]) (nx' := 4) (by kernel_rfl) ⟨by omega, by omega⟩ ?_
      exact Rd.of ⟨(((i + 1) : Nat), ((g) : Bool)), (show ((i + 1) ≤ n) ∧ (fbP (g) (exI xs h k t q s v (i + 1))) from ⟨(by first | omega | assumption | simp), (by first | exact fb_n (by omega) | exact fb_c hf (by omega))⟩)⟩ [] (P := (((fcD xs) : List D) = (fcD xs)) ∧ ((n : Nat) = n) ∧ ((0 : Nat) = 0) ∧ ((0 : Nat) = 0) ∧ ((0 : Nat) = 0) ∧ (((t - h) : Int) = (t - h)) ∧ ((((t + q) - 1) : Int) = ((t + q) - 1)) ∧ (((fcD xs) : List D) = (fcD xs)) ∧ ((n : Nat) = n) ∧ ((((n : Nat) : Int) : Int) = ((n : Nat) : Int)) ∧ (((((i + 1) : Nat) : Int) : Int) = (((i : Nat) : Int) + 1)) ∧ (([iD k, iD t, iD q, iD s, D.lit (.int .u64 v), iD f] : List D) = [iD k, iD t, iD q, iD s, D.lit (.int .u64 v), iD f]) ∧ (([iD 0, D.lit (.bool false)] : List D) = [iD 0, D.lit (.bool false)]) ∧ (([iD (exI xs h k t q s v (i + 1)), D.lit (.bool ((g)))] : List D) = [iD (exI xs h k t q s v i), D.lit (.bool (g))])) (by kernel_rfl) ⟨rfl, rfl, rfl, rfl, rfl, rfl, rfl, rfl, rfl, rfl, (by first | rfl | omega | assumption | (simp; done) | (simp; omega)), rfl, rfl, (by first | rfl | (refine congrArg (fun z => [iD z, D.lit (.bool _)]) ?_; omega))⟩ (show n - (i + 1) < n - i from (by first | omega | (show _ < _; simp; omega)))
  · refine AW.rgs [.b false] [0, 5, 6, 7, 8, 9, 35, 36, 37, 38] [0, 1, 2] (P := (¬ (((i : Nat) : Int) < ((n : Nat) : Int)))) (l' := [(0, .e (.c (.d (D.sl (fcD xs) n)))), (5, rV 0 0), (6, rV 1 0), (7, rV 2 0), (8, iV (t - h)), (9, iV ((t + q) - 1)), (35, .e (.c (.d (D.sl (fcD xs) n)))), (36, iV ↑n), (37, iV ↑i), (38, bV false)]) (g' := [(0, some (32, .ds [iD k, iD t, iD q, iD s, D.lit (.int .u64 v), iD f])), (1, some (41, .ds [iD 0, D.lit (.bool false)])), (2, some (41, .ds [iD (exI xs h k t q s v i), D.lit (.bool (g))]))]) (nx' := 3) (by kernel_rfl) (by omega) ?_
    refine AW.seq ?_
    refine AW.cond_f (.tmp (Look.of rfl)) ?_
    refine AW.exit ?_
    refine AW.rgs [.no, .no] [6] [1] (P := True) (l' := [(6, rV 1 0)]) (g' := [(1, some (41, .ds [iD (exI xs h k t q s v i), D.lit (.bool (g))]))]) (nx' := 3) (by kernel_rfl) trivial ?_
    refine AW.ret ?_
    obtain rfl : n = i := by omega
    exact EndP.of (.inr rfl) [] (P := (((exI xs h k t q s v n) : Int) = (exI xs h k t q s v n)) ∧ ((decide (exI xs h k t q s v n < 0)) = (g))) (by kernel_rfl) ⟨rfl, (by first | rfl | exact hf.symm | assumption | exact decide_eq_true (by omega) | exact decide_eq_false (by omega))⟩

end Go.Proofs.Ytjhebkiahpocfaa
