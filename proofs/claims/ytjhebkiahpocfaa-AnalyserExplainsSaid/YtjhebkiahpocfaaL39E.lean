/- Causes of any glitches. No statement is proved here. -/
import Derived.Test.YtjhebkiahpocfaaL39C
namespace Go.Proofs.Ytjhebkiahpocfaa
open Go.ChangeShapes Go.WideShapes Go.ChangeAt Go.RowKit
set_option linter.unusedVariables false
set_option linter.unusedSimpArgs false

/- glitches: lists of six numbers (kind, time, quanta, stream, device, frames) -/
def gq (gs : List (List Int)) (i j : Nat) : Int := List.getD (List.getD gs i []) j 0
def glR (l : List Int) : List D := [D.lit (.int .i64 (List.getD l 0 0)), D.lit (.int .i64 (List.getD l 1 0)), D.lit (.int .i64 (List.getD l 2 0)), D.lit (.int .i64 (List.getD l 3 0)), D.lit (.int .u64 (List.getD l 4 0)), D.lit (.int .i64 (List.getD l 5 0))]
def glD : List (List Int) → List D
  | [] => []
  | l :: r => glR l ++ glD r
theorem glD_len : ∀ xs : List (List Int), List.length (glD xs) = List.length xs * 6
  | [] => rfl
  | l :: r => by show List.length (glR l ++ glD r) = (List.length r + 1) * 6; rw [List.length_append, glD_len r]; show 6 + _ = _; omega
theorem glD_app : ∀ a b : List (List Int), glD (a ++ b) = glD a ++ glD b
  | [], _ => rfl
  | l :: r, b => by show glR l ++ glD (r ++ b) = glR l ++ glD r ++ glD b; rw [glD_app r b, List.append_assoc]
theorem glD_drop : ∀ (i : Nat) (xs : List (List Int)), List.drop (i * 6) (glD xs) = glD (List.drop i xs)
  | 0, _ => rfl
  | i + 1, [] => by simp [glD]
  | i + 1, l :: r => by
    show List.drop ((i + 1) * 6) (glR l ++ glD r) = glD (List.drop i r)
    rw [show (i + 1) * 6 = 6 + i * 6 by omega, ← List.drop_drop, ← glD_drop i r]; rfl
theorem gl_head {xs : List (List Int)} {i : Nat} (h : i < List.length xs) : glD (List.drop i xs) = glR (List.getD xs i []) ++ glD (List.drop (i + 1) xs) := by
  have e : List.getD xs i [] = xs[i] := by rw [List.getD_eq_getElem?_getD, List.getElem?_eq_getElem h]; rfl
  rw [List.drop_eq_getElem_cons h, e]; rfl
theorem gl_at {xs : List (List Int)} {i : Nat} (h : i < List.length xs) : List.take 6 (List.drop (i * 6) (glD xs)) = [D.lit (.int .i64 (gq xs i 0)), D.lit (.int .i64 (gq xs i 1)), D.lit (.int .i64 (gq xs i 2)), D.lit (.int .i64 (gq xs i 3)), D.lit (.int .u64 (gq xs i 4)), D.lit (.int .i64 (gq xs i 5))] := by
  rw [glD_drop, gl_head h]; rfl
theorem glD_one (l : List Int) : glD [l] = glR l := List.append_nil _
def snG (gs : List (List Int)) (a b c d e f : Int) : List (List Int) := gs ++ [[a, b, c, d, e, f]]
theorem snG_len (gs : List (List Int)) (a b c d e f : Int) : List.length (snG gs a b c d e f) = List.length gs + 1 := by unfold snG; rw [List.length_append]; rfl
theorem glD_sn (gs : List (List Int)) (a b c d e f : Int) : glD (snG gs a b c d e f) = glD gs ++ glD [[a, b, c, d, e, f]] := glD_app _ _
/-- no device has a number below nought -/
def GOK (gs : List (List Int)) : Prop := ∀ i, i < List.length gs → 0 ≤ gq gs i 4
theorem GOK.nil : GOK [] := fun i hi => absurd hi (Nat.not_lt_zero i)
theorem gq_l {a b : List (List Int)} {i j : Nat} (h : i < List.length a) : gq (a ++ b) i j = gq a i j := by
  unfold gq
  rw [List.getD_eq_getElem?_getD (l := a ++ b), List.getElem?_append_left h, ← List.getD_eq_getElem?_getD]
theorem gq_r {a b : List (List Int)} {i j : Nat} (h : List.length a ≤ i) : gq (a ++ b) i j = gq b (i - List.length a) j := by
  unfold gq
  rw [List.getD_eq_getElem?_getD (l := a ++ b), List.getElem?_append_right h, ← List.getD_eq_getElem?_getD]
theorem GOK.app {a b : List (List Int)} (ha : GOK a) (hb : GOK b) : GOK (a ++ b) := fun i hi => by
  rw [List.length_append] at hi
  by_cases h : i < List.length a
  · rw [gq_l h]; exact ha i h
  · rw [gq_r (by omega)]; exact hb _ (by omega)
theorem GOK.sn {gs : List (List Int)} {a b c d e f : Int} (h : GOK gs) (he : 0 ≤ e) : GOK (snG gs a b c d e f) := h.app fun i hi => by
  have hi : i < 1 := hi
  obtain rfl : i = 0 := by omega
  exact he
/-- the first cause of any glitch at any horizon -/
def exT (xs : List (List Int)) (h k t q s v f : Int) (n : Nat) : Int := if (0 ≤ h ∧ h ≤ 1099511627776) ∧ glB k t q s v f = true then exI xs h k t q s v n else -1
theorem exT_ok {xs : List (List Int)} {h k t q s v f : Int} {n : Nat} (h1 : 0 ≤ h ∧ h ≤ 1099511627776) (h2 : glB k t q s v f = true) : exT xs h k t q s v f n = exI xs h k t q s v n := if_pos ⟨h1, h2⟩
theorem exT_h {xs : List (List Int)} {h k t q s v f : Int} {n : Nat} (h1 : ¬ (0 ≤ h ∧ h ≤ 1099511627776)) : exT xs h k t q s v f n = -1 := if_neg fun h9 => h1 h9.1
theorem exT_g {xs : List (List Int)} {h k t q s v f : Int} {n : Nat} (h2 : glB k t q s v f = false) : exT xs h k t q s v f n = -1 := if_neg fun h9 => by rw [h9.2] at h2; cases h2
def exG (xs : List (List Int)) (n : Nat) (h : Int) (gs : List (List Int)) (i : Nat) : Int := exT xs h (gq gs i 0) (gq gs i 1) (gq gs i 2) (gq gs i 3) (gq gs i 4) (gq gs i 5) n
def cuR (x : Int) : List D := [D.lit (.int .i64 x), D.lit (.bool (decide (x < 0)))]
/-- the causes of the first glitches -/
def cuD (xs : List (List Int)) (n : Nat) (h : Int) (gs : List (List Int)) : Nat → List D
  | 0 => []
  | i + 1 => cuD xs n h gs i ++ cuR (exG xs n h gs i)
theorem cuD_len (xs : List (List Int)) (n : Nat) (h : Int) (gs : List (List Int)) : ∀ i, List.length (cuD xs n h gs i) = i * 2
  | 0 => rfl
  | i + 1 => by show List.length (cuD xs n h gs i ++ cuR _) = _; rw [List.length_append, cuD_len xs n h gs i]; show i * 2 + 2 = _; omega
theorem cu_at {xs : List (List Int)} {n : Nat} {h : Int} {gs : List (List Int)} {i : Nat} : ∀ m, i < m → List.take 2 (List.drop (i * 2) (cuD xs n h gs m)) = [D.lit (.int .i64 (exT xs h (gq gs i 0) (gq gs i 1) (gq gs i 2) (gq gs i 3) (gq gs i 4) (gq gs i 5) n)), D.lit (.bool (decide (exT xs h (gq gs i 0) (gq gs i 1) (gq gs i 2) (gq gs i 3) (gq gs i 4) (gq gs i 5) n < 0)))]
  | m + 1, hi => by
    have hl := cuD_len xs n h gs m
    show List.take 2 (List.drop (i * 2) (cuD xs n h gs m ++ cuR (exG xs n h gs m))) = _
    by_cases hk : i = m
    · subst hk
      rw [← hl, List.drop_left]; rfl
    · rw [List.drop_append_of_le_length (by omega), List.take_append_of_le_length (by rw [List.length_drop]; omega)]
      exact cu_at m (by omega)
theorem cu_b {xs : List (List Int)} {n : Nat} {h : Int} {gs : List (List Int)} {i m : Nat} (hi : i < m) : (List.drop (i * 2 + 1) (cuD xs n h gs m))[0]? = some (D.lit (.bool (decide (exT xs h (gq gs i 0) (gq gs i 1) (gq gs i 2) (gq gs i 3) (gq gs i 4) (gq gs i 5) n < 0)))) := by
  have h1 := cu_at (xs := xs) (n := n) (h := h) (gs := gs) m hi
  have h2 := congrArg (fun l => l[1]?) h1
  simpa [List.getElem?_take, List.getElem?_drop] using h2
/-- how many are inside -/
def inN (xs : List (List Int)) (n : Nat) (h : Int) (gs : List (List Int)) : Nat → Nat
  | 0 => 0
  | i + 1 => if exT xs h (gq gs i 0) (gq gs i 1) (gq gs i 2) (gq gs i 3) (gq gs i 4) (gq gs i 5) n < 0 then inN xs n h gs i + 1 else inN xs n h gs i
theorem inN_le (xs : List (List Int)) (n : Nat) (h : Int) (gs : List (List Int)) : ∀ i, inN xs n h gs i ≤ i
  | 0 => Nat.le_refl _
  | i + 1 => by
    have := inN_le xs n h gs i
    unfold inN; split <;> omega
theorem fc_flat : ∀ ys : List (List Int), (ys.map fcR).flatten = fcD ys
  | [] => rfl
  | y :: r => by show fcR y ++ (r.map fcR).flatten = fcR y ++ fcD r; rw [fc_flat r]
theorem gl_flat : ∀ ys : List (List Int), (ys.map glR).flatten = glD ys
  | [] => rfl
  | y :: r => by show glR y ++ (r.map glR).flatten = glR y ++ glD r; rw [gl_flat r]
theorem cu_nx {xs : List (List Int)} {n : Nat} {h : Int} {gs : List (List Int)} {i : Nat} {b : Bool} (hb : decide (exT xs h (gq gs i 0) (gq gs i 1) (gq gs i 2) (gq gs i 3) (gq gs i 4) (gq gs i 5) n < 0) = b) : cuD xs n h gs i ++ [D.lit (.int .i64 (exT xs h (gq gs i 0) (gq gs i 1) (gq gs i 2) (gq gs i 3) (gq gs i 4) (gq gs i 5) n)), D.lit (.bool b)] = cuD xs n h gs (i + 1) := by
  subst hb; rfl

set_option maxHeartbeats 4000000 in
set_option maxRecDepth 100000 in
theorem Y_Rel_no (fk ft fs fv k t q s v f : Int) (hv : 0 ≤ v) (hg : glB k t q s v f = false) : Fun 16 [.agg [iC fk, iC ft, iC fs, .d (D.lit (.int .u64 fv))], .agg [iC k, iC t, iC q, iC s, .d (D.lit (.int .u64 v)), iC f]] (toG []) 0 (bV false) (toG []) 0 := by
  refine Fun.mk (n := 70) Try.func16 rfl rfl (Nat.le_of_ble_eq_true rfl) ?_
  intro cx hcx
  refine AW.rgs [.no, .no, .no] [2, 3] [0, 1] (P := True) (l' := [(2, rV 0 0), (3, rV 1 0)]) (g' := [(0, some (45, .ds [iD fk, iD ft, iD fs, D.lit (.int .u64 fv)])), (1, some (32, .ds [iD k, iD t, iD q, iD s, D.lit (.int .u64 v), iD f]))]) (nx' := 2) (by kernel_rfl) trivial ?_
  refine AW.seq ?_
  refine AW.rgs [.no, .call [] (bV false) [] 0 [] none, .no] [2, 3, 7] [0, 1] (P := (Fun 27 [.agg [iC k, iC t, iC q, iC s, .d (D.lit (.int .u64 v)), iC f]] (toG []) 0 (bV false) (toG []) 0)) (l' := [(2, rV 0 0), (3, rV 1 0), (7, bV true)]) (g' := [(0, some (45, .ds [iD fk, iD ft, iD fs, D.lit (.int .u64 fv)])), (1, some (32, .ds [iD k, iD t, iD q, iD s, D.lit (.int .u64 v), iD f]))]) (nx' := 2) (by kernel_rfl) (by have h0 := (Z_Valid k t q s v f (by omega)); rw [hg] at h0; exact h0) ?_
  refine AW.cond_t (.tmp (Look.of rfl)) ?_
  refine AW.rgs [.no] [4] [] (P := True) (l' := [(4, bV false)]) (g' := []) (nx' := 2) (by kernel_rfl) trivial ?_
  refine AW.ret ?_
  exact EndP.of (.inr rfl) [] (P := (false = false)) (by kernel_rfl) rfl

theorem Y_Rel (fk ft fs fv k t q s v f : Int) (hv : 0 ≤ v) : Fun 16 [.agg [iC fk, iC ft, iC fs, .d (D.lit (.int .u64 fv))], .agg [iC k, iC t, iC q, iC s, .d (D.lit (.int .u64 v)), iC f]] (toG []) 0 (.e (.c (.d (D.lit (.bool (glB k t q s v f && reB fk fs fv k s v)))))) (toG []) 0 := by
  cases hg : glB k t q s v f with
  | false => exact Y_Rel_no fk ft fs fv k t q s v f hv hg
  | true => exact Z_Rel fk ft fs fv k t q s v f hv hg

set_option maxHeartbeats 4000000 in
set_option maxRecDepth 100000 in
theorem Y_rRel_no (fk ft fs fv k t q s v f : Int) (hv : 0 ≤ v) (hg : glB k t q s v f = false) : Fun 17 [.agg [iC fk, iC ft, iC fs, .d (D.lit (.int .u64 fv))], .agg [iC k, iC t, iC q, iC s, .d (D.lit (.int .u64 v)), iC f]] (toG []) 0 (bV false) (toG []) 0 := by
  refine Fun.mk (n := 66) Try.func17 rfl rfl (Nat.le_of_ble_eq_true rfl) ?_
  intro cx hcx
  refine AW.rgs [.no, .no, .no] [2, 3] [0, 1] (P := True) (l' := [(2, rV 0 0), (3, rV 1 0)]) (g' := [(0, some (45, .ds [iD fk, iD ft, iD fs, D.lit (.int .u64 fv)])), (1, some (32, .ds [iD k, iD t, iD q, iD s, D.lit (.int .u64 v), iD f]))]) (nx' := 2) (by kernel_rfl) trivial ?_
  refine AW.seq ?_
  refine AW.rgs [.no, .call [] (bV false) [] 0 [] none, .no] [2, 3, 8] [0, 1] (P := (Fun 28 [.agg [iC k, iC t, iC q, iC s, .d (D.lit (.int .u64 v)), iC f]] (toG []) 0 (bV false) (toG []) 0)) (l' := [(2, rV 0 0), (3, rV 1 0), (8, bV true)]) (g' := [(0, some (45, .ds [iD fk, iD ft, iD fs, D.lit (.int .u64 fv)])), (1, some (32, .ds [iD k, iD t, iD q, iD s, D.lit (.int .u64 v), iD f]))]) (nx' := 2) (by kernel_rfl) (by have h0 := (Z_rValid k t q s v f (by omega)); rw [hg] at h0; exact h0) ?_
  refine AW.cond_t (.tmp (Look.of rfl)) ?_
  refine AW.rgs [.no] [4] [] (P := True) (l' := [(4, bV false)]) (g' := []) (nx' := 2) (by kernel_rfl) trivial ?_
  refine AW.ret ?_
  exact EndP.of (.inr rfl) [] (P := (false = false)) (by kernel_rfl) rfl

theorem Y_rRel (fk ft fs fv k t q s v f : Int) (hv : 0 ≤ v) : Fun 17 [.agg [iC fk, iC ft, iC fs, .d (D.lit (.int .u64 fv))], .agg [iC k, iC t, iC q, iC s, .d (D.lit (.int .u64 v)), iC f]] (toG []) 0 (.e (.c (.d (D.lit (.bool (glB k t q s v f && reB fk fs fv k s v)))))) (toG []) 0 := by
  cases hg : glB k t q s v f with
  | false => exact Y_rRel_no fk ft fs fv k t q s v f hv hg
  | true => exact Z_rRel fk ft fs fv k t q s v f hv hg

set_option maxHeartbeats 4000000 in
set_option maxRecDepth 100000 in
theorem Y_Ex_h (xs : List (List Int)) (n : Nat) (h k t q s v f : Int) (hn : List.length xs = n) (hb : n ≤ 1000000) (hh : -9223372036854775808 ≤ h ∧ h ≤ 9223372036854775807) (hv : 0 ≤ v) (h1 : ¬ (0 ≤ h ∧ h ≤ 1099511627776)) : Fun 15 [.c (.d (D.sl (fcD xs) n)), iE h, .agg [iC k, iC t, iC q, iC s, .d (D.lit (.int .u64 v)), iC f]] (toG []) 0 (.e (.agg [iC (-1), .d (D.lit (.bool true))])) (toG []) 0 := by
  refine Fun.mk (n := 76) Try.func15 rfl rfl (Nat.le_of_ble_eq_true rfl) ?_
  intro cx hcx
  refine AW.rgs [.no, .no] [0, 1, 5, 6] [0, 1] (P := True) (l' := [(0, .e (.c (.d (D.sl (fcD xs) n)))), (1, iV h), (5, rV 0 0), (6, rV 1 0)]) (g' := [(0, some (32, .ds [iD k, iD t, iD q, iD s, D.lit (.int .u64 v), iD f])), (1, some (41, .ds [iD 0, D.lit (.bool false)]))]) (nx' := 2) (by kernel_rfl) trivial ?_
  refine AW.rgs [.no, .no, .no] [0, 1, 5, 6, 7] [0, 1, 2] (P := True) (l' := [(0, .e (.c (.d (D.sl (fcD xs) n)))), (1, iV h), (5, rV 0 0), (6, rV 1 0), (7, rV 2 0)]) (g' := [(0, some (32, .ds [iD k, iD t, iD q, iD s, D.lit (.int .u64 v), iD f])), (1, some (41, .ds [iD 0, D.lit (.bool false)])), (2, some (41, .ds [iD (-1), D.lit (.bool true)]))]) (nx' := 3) (by kernel_rfl) trivial ?_
  refine AW.seq ?_
  by_cases hx1 : (h < 0)
  · refine AW.rgs [.no, .b true, .no, .no, .no, .no] [0, 1, 5, 6, 7, 23] [0, 1, 2] (P := ((h < 0))) (l' := [(0, .e (.c (.d (D.sl (fcD xs) n)))), (1, iV h), (5, rV 0 0), (6, rV 1 0), (7, rV 2 0), (23, bV true)]) (g' := [(0, some (32, .ds [iD k, iD t, iD q, iD s, D.lit (.int .u64 v), iD f])), (1, some (41, .ds [iD 0, D.lit (.bool false)])), (2, some (41, .ds [iD (-1), D.lit (.bool true)]))]) (nx' := 3) (by kernel_rfl) (by omega) ?_
    refine AW.cond_t (.tmp (Look.of rfl)) ?_
    refine AW.rgs [.no, .no] [6] [1] (P := True) (l' := [(6, rV 1 0)]) (g' := [(1, some (41, .ds [iD (-1), D.lit (.bool true)]))]) (nx' := 3) (by kernel_rfl) trivial ?_
    refine AW.ret ?_
    exact EndP.of (.inr rfl) [] (P := (((-1) : Int) = (-1)) ∧ (true = true)) (by kernel_rfl) ⟨rfl, rfl⟩
  · refine AW.rgs [.no, .b false, .no, .no, .b true, .no, .no, .no] [0, 1, 5, 6, 7, 23] [0, 1, 2] (P := (¬ (h < 0)) ∧ (((1099511627776 : Int) < h))) (l' := [(0, .e (.c (.d (D.sl (fcD xs) n)))), (1, iV h), (5, rV 0 0), (6, rV 1 0), (7, rV 2 0), (23, bV true)]) (g' := [(0, some (32, .ds [iD k, iD t, iD q, iD s, D.lit (.int .u64 v), iD f])), (1, some (41, .ds [iD 0, D.lit (.bool false)])), (2, some (41, .ds [iD (-1), D.lit (.bool true)]))]) (nx' := 3) (by kernel_rfl) ⟨(by omega), (by omega)⟩ ?_
    refine AW.cond_t (.tmp (Look.of rfl)) ?_
    refine AW.rgs [.no, .no] [6] [1] (P := True) (l' := [(6, rV 1 0)]) (g' := [(1, some (41, .ds [iD (-1), D.lit (.bool true)]))]) (nx' := 3) (by kernel_rfl) trivial ?_
    refine AW.ret ?_
    exact EndP.of (.inr rfl) [] (P := (((-1) : Int) = (-1)) ∧ (true = true)) (by kernel_rfl) ⟨rfl, rfl⟩

set_option maxHeartbeats 4000000 in
set_option maxRecDepth 100000 in
theorem Y_Ex_g (xs : List (List Int)) (n : Nat) (h k t q s v f : Int) (hn : List.length xs = n) (hb : n ≤ 1000000) (hh : -9223372036854775808 ≤ h ∧ h ≤ 9223372036854775807) (hv : 0 ≤ v) (h1 : 0 ≤ h ∧ h ≤ 1099511627776) (hg : glB k t q s v f = false) : Fun 15 [.c (.d (D.sl (fcD xs) n)), iE h, .agg [iC k, iC t, iC q, iC s, .d (D.lit (.int .u64 v)), iC f]] (toG []) 0 (.e (.agg [iC (-1), .d (D.lit (.bool true))])) (toG []) 0 := by
  refine Fun.mk (n := 76) Try.func15 rfl rfl (Nat.le_of_ble_eq_true rfl) ?_
  intro cx hcx
  refine AW.rgs [.no, .no] [0, 1, 5, 6] [0, 1] (P := True) (l' := [(0, .e (.c (.d (D.sl (fcD xs) n)))), (1, iV h), (5, rV 0 0), (6, rV 1 0)]) (g' := [(0, some (32, .ds [iD k, iD t, iD q, iD s, D.lit (.int .u64 v), iD f])), (1, some (41, .ds [iD 0, D.lit (.bool false)]))]) (nx' := 2) (by kernel_rfl) trivial ?_
  refine AW.rgs [.no, .no, .no] [0, 1, 5, 6, 7] [0, 1, 2] (P := True) (l' := [(0, .e (.c (.d (D.sl (fcD xs) n)))), (1, iV h), (5, rV 0 0), (6, rV 1 0), (7, rV 2 0)]) (g' := [(0, some (32, .ds [iD k, iD t, iD q, iD s, D.lit (.int .u64 v), iD f])), (1, some (41, .ds [iD 0, D.lit (.bool false)])), (2, some (41, .ds [iD (-1), D.lit (.bool true)]))]) (nx' := 3) (by kernel_rfl) trivial ?_
  refine AW.seq ?_
  refine AW.rgs [.no, .b false, .no, .no, .b false, .no, .no, .no, .call [] (bV false) [] 0 [] none, .no, .no] [0, 1, 5, 6, 7, 23] [0, 1, 2] (P := (¬ (h < 0)) ∧ (¬ ((1099511627776 : Int) < h)) ∧ (Fun 27 [.agg [iC k, iC t, iC q, iC s, .d (D.lit (.int .u64 v)), iC f]] (toG []) 0 (bV false) (toG []) 0)) (l' := [(0, .e (.c (.d (D.sl (fcD xs) n)))), (1, iV h), (5, rV 0 0), (6, rV 1 0), (7, rV 2 0), (23, bV true)]) (g' := [(0, some (32, .ds [iD k, iD t, iD q, iD s, D.lit (.int .u64 v), iD f])), (1, some (41, .ds [iD 0, D.lit (.bool false)])), (2, some (41, .ds [iD (-1), D.lit (.bool true)]))]) (nx' := 3) (by kernel_rfl) ⟨(by omega), (by omega), (by have h0 := (Z_Valid k t q s v f (by omega)); rw [hg] at h0; exact h0)⟩ ?_
  refine AW.cond_t (.tmp (Look.of rfl)) ?_
  refine AW.rgs [.no, .no] [6] [1] (P := True) (l' := [(6, rV 1 0)]) (g' := [(1, some (41, .ds [iD (-1), D.lit (.bool true)]))]) (nx' := 3) (by kernel_rfl) trivial ?_
  refine AW.ret ?_
  exact EndP.of (.inr rfl) [] (P := (((-1) : Int) = (-1)) ∧ (true = true)) (by kernel_rfl) ⟨rfl, rfl⟩

set_option maxHeartbeats 4000000 in
set_option maxRecDepth 100000 in
theorem Y_rEx_ok (xs : List (List Int)) (n : Nat) (h k t q s v f : Int) (hn : List.length xs = n) (hb : n ≤ 1000000) (hh : -9223372036854775808 ≤ h ∧ h ≤ 9223372036854775807) (hv : 0 ≤ v) (hg : glB k t q s v f = true) (hh2 : 0 ≤ h ∧ h ≤ 1099511627776) : Fun 26 [.c (.d (D.sl (fcD xs) n)), iE h, .agg [iC k, iC t, iC q, iC s, .d (D.lit (.int .u64 v)), iC f]] (toG []) 0 (.e (.agg [iC (exI xs h k t q s v n), .d (D.lit (.bool (decide (exI xs h k t q s v n < 0))))])) (toG []) 0 := by
  have hgk : 0 ≤ t ∧ t ≤ 1099511627776 ∧ 1 ≤ q ∧ q ≤ 4096 := by have h9 := of_decide_eq_true hg; omega
  refine Fun.mk (n := 76) Try.func26 rfl rfl (Nat.le_of_ble_eq_true rfl) ?_
  intro cx hcx
  refine AW.rgs [.no, .no] [0, 1, 5, 6] [0, 1] (P := True) (l' := [(0, .e (.c (.d (D.sl (fcD xs) n)))), (1, iV h), (5, rV 0 0), (6, rV 1 0)]) (g' := [(0, some (32, .ds [iD k, iD t, iD q, iD s, D.lit (.int .u64 v), iD f])), (1, some (41, .ds [iD 0, D.lit (.bool false)]))]) (nx' := 2) (by kernel_rfl) trivial ?_
  refine AW.rgs [.no] [0, 1, 5, 6, 7] [0, 1] (P := True) (l' := [(0, .e (.c (.d (D.sl (fcD xs) n)))), (1, iV h), (5, rV 0 0), (6, rV 1 0), (7, iV (-1))]) (g' := [(0, some (32, .ds [iD k, iD t, iD q, iD s, D.lit (.int .u64 v), iD f])), (1, some (41, .ds [iD 0, D.lit (.bool false)]))]) (nx' := 2) (by kernel_rfl) trivial ?_
  refine AW.seq ?_
  refine AW.rgs [.no] [0, 1, 5, 6, 7, 8] [0, 1] (P := True) (l' := [(0, .e (.c (.d (D.sl (fcD xs) n)))), (1, iV h), (5, rV 0 0), (6, rV 1 0), (7, iV (-1)), (8, iV 0)]) (g' := [(0, some (32, .ds [iD k, iD t, iD q, iD s, D.lit (.int .u64 v), iD f])), (1, some (41, .ds [iD 0, D.lit (.bool false)]))]) (nx' := 2) (by kernel_rfl) trivial ?_
  refine AW.block ?_
  refine AW.loopE 0 hcx (fun (x : {x : Nat // match x with | i => (i ≤ n)}) => match x with | ⟨i, _⟩ => (⟨[(0, .e (.c (.d (D.sl (fcD xs) n)))), (1, iV h), (5, rV 0 0), (6, rV 1 0), (7, iV (exI xs h k t q s v i)), (8, iV ((i : Nat) : Int))], [(0, some (32, .ds [iD k, iD t, iD q, iD s, D.lit (.int .u64 v), iD f])), (1, some (41, .ds [iD 0, D.lit (.bool false)]))], 2⟩ : ES)) (fun (x : {x : Nat // match x with | i => (i ≤ n)}) => match x with | ⟨i, _⟩ => n - i) ⟨(0 : Nat), (show ((0 : Nat) ≤ n) from (by first | omega | assumption | simp))⟩ [] (P := (((fcD xs) : List D) = (fcD xs)) ∧ ((n : Nat) = n) ∧ ((h : Int) = h) ∧ ((0 : Nat) = 0) ∧ ((0 : Nat) = 0) ∧ (((exI xs h k t q s v 0) : Int) = (-1)) ∧ ((0 : Int) = 0) ∧ (([iD k, iD t, iD q, iD s, D.lit (.int .u64 v), iD f] : List D) = [iD k, iD t, iD q, iD s, D.lit (.int .u64 v), iD f]) ∧ (([iD 0, D.lit (.bool false)] : List D) = [iD 0, D.lit (.bool false)])) (by kernel_rfl) ⟨rfl, rfl, rfl, rfl, rfl, (by first | rfl | omega | assumption | (simp; done) | (simp; omega)), rfl, rfl, rfl⟩ ?_
  rintro ⟨i, hinv0⟩
  have hi : (i ≤ n) := hinv0
  refine AW.es (l := [(0, .e (.c (.d (D.sl (fcD xs) n)))), (1, iV h), (5, rV 0 0), (6, rV 1 0), (7, iV (exI xs h k t q s v i)), (8, iV ((i : Nat) : Int))]) (g := [(0, some (32, .ds [iD k, iD t, iD q, iD s, D.lit (.int .u64 v), iD f])), (1, some (41, .ds [iD 0, D.lit (.bool false)]))]) (nx := 2) rfl rfl rfl ?_
  have hxr : -1 ≤ exI xs h k t q s v i ∧ exI xs h k t q s v i < (i : Int) := ex_bd _ _ _ _ _ _ _ i
  refine AW.seq ?_
  by_cases hx1 : (((i : Nat) : Int) < ((n : Nat) : Int))
  · refine AW.rgs [.no, .no, .no, .b true, .no, .no, .b true, .no, .no, .no, .b true, .no] [0, 1, 5, 6, 7, 8, 20] [0, 1] (P := ((((i : Nat) : Int) < ((n : Nat) : Int))) ∧ (((0 : Int) ≤ h)) ∧ ((h ≤ 1099511627776))) (l' := [(0, .e (.c (.d (D.sl (fcD xs) n)))), (1, iV h), (5, rV 0 0), (6, rV 1 0), (7, iV (exI xs h k t q s v i)), (8, iV ↑i), (20, bV true)]) (g' := [(0, some (32, .ds [iD k, iD t, iD q, iD s, D.lit (.int .u64 v), iD f])), (1, some (41, .ds [iD 0, D.lit (.bool false)]))]) (nx' := 2) (by kernel_rfl) ⟨(by omega), (by omega), (by omega)⟩ ?_
    refine AW.cond_t (.tmp (Look.of rfl)) ?_
    refine AW.skip ?_
    refine AW.seq ?_
    refine AW.block ?_
    refine AW.seq ?_
    rcases Bool.eq_false_or_eq_true (reB (fq xs i 0) (fq xs i 2) (fq xs i 3) k s v) with hx2 | hx2
    · by_cases hx3 : ((fq xs i 1) < (t - h))
      · refine AW.rgs [.no, .no, .n i, .ds [iD (fq xs i 0), iD (fq xs i 1), iD (fq xs i 2), D.lit (.int .u64 (fq xs i 3))], .no, .call [] (bV true) [] 0 [] none, .no, .no, .no, .no, .n i, .no, .d (iD (fq xs i 1)), .no, .no, .no, .w, .b true, .no, .no, .no] [0, 1, 5, 6, 7, 8, 55] [0, 1] (P := ((((i : Nat) : Int) : Int) = ((i : Nat) : Int)) ∧ (i < n) ∧ (List.take 4 (List.drop (i * 4) (fcD xs)) = [iD (fq xs i 0), iD (fq xs i 1), iD (fq xs i 2), D.lit (.int .u64 (fq xs i 3))]) ∧ (([iD (fq xs i 0), iD (fq xs i 1), iD (fq xs i 2), D.lit (.int .u64 (fq xs i 3))] : List D).length = 4) ∧ (Fun 17 [.agg [iC (fq xs i 0), iC (fq xs i 1), iC (fq xs i 2), .d (D.lit (.int .u64 (fq xs i 3)))], .agg [iC k, iC t, iC q, iC s, .d (D.lit (.int .u64 v)), iC f]] (toG []) 0 (bV true) (toG []) 0) ∧ ((((i : Nat) : Int) : Int) = ((i : Nat) : Int)) ∧ (i < n) ∧ ((List.drop 1 (List.drop (i * 4) (fcD xs)))[0]? = some (iD (fq xs i 1))) ∧ ((-9223372036854775808) ≤ (t - h) ∧ (t - h) ≤ 9223372036854775807) ∧ (((fq xs i 1) < (t - h)))) (l' := [(0, .e (.c (.d (D.sl (fcD xs) n)))), (1, iV h), (5, rV 0 0), (6, rV 1 0), (7, iV (exI xs h k t q s v i)), (8, iV ↑i), (55, bV true)]) (g' := [(0, some (32, .ds [iD k, iD t, iD q, iD s, D.lit (.int .u64 v), iD f])), (1, some (41, .ds [iD 0, D.lit (.bool false)]))]) (nx' := 2) (by kernel_rfl) ⟨rfl, (by omega), (fc_at (by first | omega | (simp only [fcD_len, glD_len, cuD_len, snG_len, List.length_append, List.length_cons, List.length_nil, List.length_take, List.length_drop] <;> omega))), rfl, (by have h0 := (Z_rRel (fq xs i 0) (fq xs i 1) (fq xs i 2) (fq xs i 3) k t q s v f (by omega) hg); rw [hx2] at h0; exact h0), rfl, (by omega), (by first | (rw [List.drop_drop]; exact (fc_t0 (by first | omega | (simp only [fcD_len, glD_len, cuD_len, snG_len, List.length_append, List.length_cons, List.length_nil, List.length_take, List.length_drop] <;> omega)))) | (rw [List.drop_drop, Nat.add_comm]; exact (fc_t0 (by first | omega | (simp only [fcD_len, glD_len, cuD_len, snG_len, List.length_append, List.length_cons, List.length_nil, List.length_take, List.length_drop] <;> omega))))), ⟨by omega, by omega⟩, (by omega)⟩ ?_
        refine AW.cond_t (.tmp (Look.of rfl)) ?_
        refine AW.exit ?_
        have hx4 : exI xs h k t q s v (i + 1) = exI xs h k t q s v i := ex_no (by omega)
        refine AW.rg [.no, .w, .no] [0, 1, 5, 6, 7, 8] [0, 1] (P := ((-9223372036854775808) ≤ (((i : Nat) : Int) + 1) ∧ (((i : Nat) : Int) + 1) ≤ 9223372036854775807)) (l' := [(0, .e (.c (.d (D.sl (fcD xs) n)))), (1, iV h), (5, rV 0 0), (6, rV 1 0), (7, iV (exI xs h k t q s v i)), (8, iV (↑i + 1))]) (g' := [(0, some (32, .ds [iD k, iD t, iD q, iD s, D.lit (.int .u64 v), iD f])), (1, some (41, .ds [iD 0, D.lit (.bool false)]))]) (nx' := 2) (by kernel_rfl) ⟨by omega, by omega⟩ ?_
        exact Rd.of ⟨((i + 1) : Nat), (show ((i + 1) ≤ n) from (by first | omega | assumption | simp))⟩ [] (P := (((fcD xs) : List D) = (fcD xs)) ∧ ((n : Nat) = n) ∧ ((h : Int) = h) ∧ ((0 : Nat) = 0) ∧ ((0 : Nat) = 0) ∧ (((exI xs h k t q s v (i + 1)) : Int) = (exI xs h k t q s v i)) ∧ (((((i + 1) : Nat) : Int) : Int) = (((i : Nat) : Int) + 1)) ∧ (([iD k, iD t, iD q, iD s, D.lit (.int .u64 v), iD f] : List D) = [iD k, iD t, iD q, iD s, D.lit (.int .u64 v), iD f]) ∧ (([iD 0, D.lit (.bool false)] : List D) = [iD 0, D.lit (.bool false)])) (by kernel_rfl) ⟨rfl, rfl, rfl, rfl, rfl, (by first | rfl | omega | assumption | (simp; done) | (simp; omega)), (by first | rfl | omega | assumption | (simp; done) | (simp; omega)), rfl, rfl⟩ (show n - (i + 1) < n - i from (by first | omega | (show _ < _; simp; omega)))
      · by_cases hx5 : (((t + q) - 1) < (fq xs i 1))
        · refine AW.rgs [.no, .no, .n i, .ds [iD (fq xs i 0), iD (fq xs i 1), iD (fq xs i 2), D.lit (.int .u64 (fq xs i 3))], .no, .call [] (bV true) [] 0 [] none, .no, .no, .no, .no, .n i, .no, .d (iD (fq xs i 1)), .no, .no, .no, .w, .b false, .no, .no, .no, .no, .n i, .no, .d (iD (fq xs i 1)), .no, .no, .no, .no, .w, .w, .b true, .no] [0, 1, 5, 6, 7, 8, 55] [0, 1] (P := ((((i : Nat) : Int) : Int) = ((i : Nat) : Int)) ∧ (i < n) ∧ (List.take 4 (List.drop (i * 4) (fcD xs)) = [iD (fq xs i 0), iD (fq xs i 1), iD (fq xs i 2), D.lit (.int .u64 (fq xs i 3))]) ∧ (([iD (fq xs i 0), iD (fq xs i 1), iD (fq xs i 2), D.lit (.int .u64 (fq xs i 3))] : List D).length = 4) ∧ (Fun 17 [.agg [iC (fq xs i 0), iC (fq xs i 1), iC (fq xs i 2), .d (D.lit (.int .u64 (fq xs i 3)))], .agg [iC k, iC t, iC q, iC s, .d (D.lit (.int .u64 v)), iC f]] (toG []) 0 (bV true) (toG []) 0) ∧ ((((i : Nat) : Int) : Int) = ((i : Nat) : Int)) ∧ (i < n) ∧ ((List.drop 1 (List.drop (i * 4) (fcD xs)))[0]? = some (iD (fq xs i 1))) ∧ ((-9223372036854775808) ≤ (t - h) ∧ (t - h) ≤ 9223372036854775807) ∧ (¬ ((fq xs i 1) < (t - h))) ∧ ((((i : Nat) : Int) : Int) = ((i : Nat) : Int)) ∧ (i < n) ∧ ((List.drop 1 (List.drop (i * 4) (fcD xs)))[0]? = some (iD (fq xs i 1))) ∧ ((-9223372036854775808) ≤ (t + q) ∧ (t + q) ≤ 9223372036854775807) ∧ ((-9223372036854775808) ≤ ((t + q) - 1) ∧ ((t + q) - 1) ≤ 9223372036854775807) ∧ ((((t + q) - 1) < (fq xs i 1)))) (l' := [(0, .e (.c (.d (D.sl (fcD xs) n)))), (1, iV h), (5, rV 0 0), (6, rV 1 0), (7, iV (exI xs h k t q s v i)), (8, iV ↑i), (55, bV true)]) (g' := [(0, some (32, .ds [iD k, iD t, iD q, iD s, D.lit (.int .u64 v), iD f])), (1, some (41, .ds [iD 0, D.lit (.bool false)]))]) (nx' := 2) (by kernel_rfl) ⟨rfl, (by omega), (fc_at (by first | omega | (simp only [fcD_len, glD_len, cuD_len, snG_len, List.length_append, List.length_cons, List.length_nil, List.length_take, List.length_drop] <;> omega))), rfl, (by have h0 := (Z_rRel (fq xs i 0) (fq xs i 1) (fq xs i 2) (fq xs i 3) k t q s v f (by omega) hg); rw [hx2] at h0; exact h0), rfl, (by omega), (by first | (rw [List.drop_drop]; exact (fc_t0 (by first | omega | (simp only [fcD_len, glD_len, cuD_len, snG_len, List.length_append, List.length_cons, List.length_nil, List.length_take, List.length_drop] <;> omega)))) | (rw [List.drop_drop, Nat.add_comm]; exact (fc_t0 (by first | omega | (simp only [fcD_len, glD_len, cuD_len, snG_len, List.length_append, List.length_cons, List.length_nil, List.length_take, List.length_drop] <;> omega))))), ⟨by omega, by omega⟩, (by omega), rfl, (by omega), (by first | (rw [List.drop_drop]; exact (fc_t0 (by first | omega | (simp only [fcD_len, glD_len, cuD_len, snG_len, List.length_append, List.length_cons, List.length_nil, List.length_take, List.length_drop] <;> omega)))) | (rw [List.drop_drop, Nat.add_comm]; exact (fc_t0 (by first | omega | (simp only [fcD_len, glD_len, cuD_len, snG_len, List.length_append, List.length_cons, List.length_nil, List.length_take, List.length_drop] <;> omega))))), ⟨by omega, by omega⟩, ⟨by omega, by omega⟩, (by omega)⟩ ?_
          refine AW.cond_t (.tmp (Look.of rfl)) ?_
          refine AW.exit ?_
          have hx6 : exI xs h k t q s v (i + 1) = exI xs h k t q s v i := ex_no (by omega)
          refine AW.rg [.no, .w, .no] [0, 1, 5, 6, 7, 8] [0, 1] (P := ((-9223372036854775808) ≤ (((i : Nat) : Int) + 1) ∧ (((i : Nat) : Int) + 1) ≤ 9223372036854775807)) (l' := [(0, .e (.c (.d (D.sl (fcD xs) n)))), (1, iV h), (5, rV 0 0), (6, rV 1 0), (7, iV (exI xs h k t q s v i)), (8, iV (↑i + 1))]) (g' := [(0, some (32, .ds [iD k, iD t, iD q, iD s, D.lit (.int .u64 v), iD f])), (1, some (41, .ds [iD 0, D.lit (.bool false)]))]) (nx' := 2) (by kernel_rfl) ⟨by omega, by omega⟩ ?_
          exact Rd.of ⟨((i + 1) : Nat), (show ((i + 1) ≤ n) from (by first | omega | assumption | simp))⟩ [] (P := (((fcD xs) : List D) = (fcD xs)) ∧ ((n : Nat) = n) ∧ ((h : Int) = h) ∧ ((0 : Nat) = 0) ∧ ((0 : Nat) = 0) ∧ (((exI xs h k t q s v (i + 1)) : Int) = (exI xs h k t q s v i)) ∧ (((((i + 1) : Nat) : Int) : Int) = (((i : Nat) : Int) + 1)) ∧ (([iD k, iD t, iD q, iD s, D.lit (.int .u64 v), iD f] : List D) = [iD k, iD t, iD q, iD s, D.lit (.int .u64 v), iD f]) ∧ (([iD 0, D.lit (.bool false)] : List D) = [iD 0, D.lit (.bool false)])) (by kernel_rfl) ⟨rfl, rfl, rfl, rfl, rfl, (by first | rfl | omega | assumption | (simp; done) | (simp; omega)), (by first | rfl | omega | assumption | (simp; done) | (simp; omega)), rfl, rfl⟩ (show n - (i + 1) < n - i from (by first | omega | (show _ < _; simp; omega)))
        · refine AW.rgs [.no, .no, .n i, .ds [iD (fq xs i 0), iD (fq xs i 1), iD (fq xs i 2), D.lit (.int .u64 (fq xs i 3))], .no, .call [] (bV true) [] 0 [] none, .no, .no, .no, .no, .n i, .no, .d (iD (fq xs i 1)), .no, .no, .no, .w, .b false, .no, .no, .no, .no, .n i, .no, .d (iD (fq xs i 1)), .no, .no, .no, .no, .w, .w, .b false, .no] [0, 1, 5, 6, 7, 8, 55] [0, 1] (P := ((((i : Nat) : Int) : Int) = ((i : Nat) : Int)) ∧ (i < n) ∧ (List.take 4 (List.drop (i * 4) (fcD xs)) = [iD (fq xs i 0), iD (fq xs i 1), iD (fq xs i 2), D.lit (.int .u64 (fq xs i 3))]) ∧ (([iD (fq xs i 0), iD (fq xs i 1), iD (fq xs i 2), D.lit (.int .u64 (fq xs i 3))] : List D).length = 4) ∧ (Fun 17 [.agg [iC (fq xs i 0), iC (fq xs i 1), iC (fq xs i 2), .d (D.lit (.int .u64 (fq xs i 3)))], .agg [iC k, iC t, iC q, iC s, .d (D.lit (.int .u64 v)), iC f]] (toG []) 0 (bV true) (toG []) 0) ∧ ((((i : Nat) : Int) : Int) = ((i : Nat) : Int)) ∧ (i < n) ∧ ((List.drop 1 (List.drop (i * 4) (fcD xs)))[0]? = some (iD (fq xs i 1))) ∧ ((-9223372036854775808) ≤ (t - h) ∧ (t - h) ≤ 9223372036854775807) ∧ (¬ ((fq xs i 1) < (t - h))) ∧ ((((i : Nat) : Int) : Int) = ((i : Nat) : Int)) ∧ (i < n) ∧ ((List.drop 1 (List.drop (i * 4) (fcD xs)))[0]? = some (iD (fq xs i 1))) ∧ ((-9223372036854775808) ≤ (t + q) ∧ (t + q) ≤ 9223372036854775807) ∧ ((-9223372036854775808) ≤ ((t + q) - 1) ∧ ((t + q) - 1) ≤ 9223372036854775807) ∧ (¬ (((t + q) - 1) < (fq xs i 1)))) (l' := [(0, .e (.c (.d (D.sl (fcD xs) n)))), (1, iV h), (5, rV 0 0), (6, rV 1 0), (7, iV (exI xs h k t q s v i)), (8, iV ↑i), (55, bV false)]) (g' := [(0, some (32, .ds [iD k, iD t, iD q, iD s, D.lit (.int .u64 v), iD f])), (1, some (41, .ds [iD 0, D.lit (.bool false)]))]) (nx' := 2) (by kernel_rfl) ⟨rfl, (by omega), (fc_at (by first | omega | (simp only [fcD_len, glD_len, cuD_len, snG_len, List.length_append, List.length_cons, List.length_nil, List.length_take, List.length_drop] <;> omega))), rfl, (by have h0 := (Z_rRel (fq xs i 0) (fq xs i 1) (fq xs i 2) (fq xs i 3) k t q s v f (by omega) hg); rw [hx2] at h0; exact h0), rfl, (by omega), (by first | (rw [List.drop_drop]; exact (fc_t0 (by first | omega | (simp only [fcD_len, glD_len, cuD_len, snG_len, List.length_append, List.length_cons, List.length_nil, List.length_take, List.length_drop] <;> omega)))) | (rw [List.drop_drop, Nat.add_comm]; exact (fc_t0 (by first | omega | (simp only [fcD_len, glD_len, cuD_len, snG_len, List.length_append, List.length_cons, List.length_nil, List.length_take, List.length_drop] <;> omega))))), ⟨by omega, by omega⟩, (by omega), rfl, (by omega), (by first | (rw [List.drop_drop]; exact (fc_t0 (by first | omega | (simp only [fcD_len, glD_len, cuD_len, snG_len, List.length_append, List.length_cons, List.length_nil, List.length_take, List.length_drop] <;> omega)))) | (rw [List.drop_drop, Nat.add_comm]; exact (fc_t0 (by first | omega | (simp only [fcD_len, glD_len, cuD_len, snG_len, List.length_append, List.length_cons, List.length_nil, List.length_take, List.length_drop] <;> omega))))), ⟨by omega, by omega⟩, ⟨by omega, by omega⟩, (by omega)⟩ ?_
          refine AW.cond_f (.tmp (Look.of rfl)) ?_
          refine AW.skip ?_
          by_cases hx7 : ((exI xs h k t q s v i) < 0)
          · refine AW.rgs [.no, .b true, .no, .no] [0, 1, 5, 6, 7, 8, 70] [0, 1] (P := (((exI xs h k t q s v i) < 0))) (l' := [(0, .e (.c (.d (D.sl (fcD xs) n)))), (1, iV h), (5, rV 0 0), (6, rV 1 0), (7, iV (exI xs h k t q s v i)), (8, iV ↑i), (70, bV true)]) (g' := [(0, some (32, .ds [iD k, iD t, iD q, iD s, D.lit (.int .u64 v), iD f])), (1, some (41, .ds [iD 0, D.lit (.bool false)]))]) (nx' := 2) (by kernel_rfl) (by omega) ?_
            refine AW.cond_t (.tmp (Look.of rfl)) ?_
            refine AW.rg [.no, .no] [0, 1, 5, 6, 7, 8] [0, 1] (P := True) (l' := [(0, .e (.c (.d (D.sl (fcD xs) n)))), (1, iV h), (5, rV 0 0), (6, rV 1 0), (7, iV ↑i), (8, iV ↑i)]) (g' := [(0, some (32, .ds [iD k, iD t, iD q, iD s, D.lit (.int .u64 v), iD f])), (1, some (41, .ds [iD 0, D.lit (.bool false)]))]) (nx' := 2) (by kernel_rfl) trivial ?_
            have hx8 : exI xs h k t q s v (i + 1) = (i : Int) := ex_yes (by omega) (by omega) (by omega) (by with_reducible assumption)
            refine AW.rg [.no, .w, .no] [0, 1, 5, 6, 7, 8] [0, 1] (P := ((-9223372036854775808) ≤ (((i : Nat) : Int) + 1) ∧ (((i : Nat) : Int) + 1) ≤ 9223372036854775807)) (l' := [(0, .e (.c (.d (D.sl (fcD xs) n)))), (1, iV h), (5, rV 0 0), (6, rV 1 0), (7, iV ↑i), (8, iV (↑i + 1))]) (g' := [(0, some (32, .ds [iD k, iD t, iD q, iD s, D.lit (.int .u64 v), iD f])), (1, some (41, .ds [iD 0, D.lit (.bool false)]))]) (nx' := 2) (by kernel_rfl) ⟨by omega, by omega⟩ ?_
            exact Rd.of ⟨((i + 1) : Nat), (show ((i + 1) ≤ n) from (by first | omega | assumption | simp))⟩ [] (P := (((fcD xs) : List D) = (fcD xs)) ∧ ((n : Nat) = n) ∧ ((h : Int) = h) ∧ ((0 : Nat) = 0) ∧ ((0 : Nat) = 0) ∧ (((exI xs h k t q s v (i + 1)) : Int) = ((i : Nat) : Int)) ∧ (((((i + 1) : Nat) : Int) : Int) = (((i : Nat) : Int) + 1)) ∧ (([iD k, iD t, iD q, iD s, D.lit (.int .u64 v), iD f] : List D) = [iD k, iD t, iD q, iD s, D.lit (.int .u64 v), iD f]) ∧ (([iD 0, D.lit (.bool false)] : List D) = [iD 0, D.lit (.bool false)])) (by kernel_rfl) ⟨rfl, rfl, rfl, rfl, rfl, (by first | rfl | omega | assumption | (simp; done) | (simp; omega)), (by first | rfl | omega | assumption | (simp; done) | (simp; omega)), rfl, rfl⟩ (show n - (i + 1) < n - i from (by first | omega | (show _ < _; simp; omega)))
          · by_cases hx9 : ((fq xs i 1) < (fq xs (Int.toNat (exI xs h k t q s v i)) 1))
            · refine AW.rgs [.no, .b false, .no, .no, .no, .n i, .no, .d (iD (fq xs i 1)), .no, .no, .n (Int.toNat (exI xs h k t q s v i)), .no, .d (iD (fq xs (Int.toNat (exI xs h k t q s v i)) 1)), .b true, .no] [0, 1, 5, 6, 7, 8, 70] [0, 1] (P := (¬ ((exI xs h k t q s v i) < 0)) ∧ ((((i : Nat) : Int) : Int) = ((i : Nat) : Int)) ∧ (i < n) ∧ ((List.drop 1 (List.drop (i * 4) (fcD xs)))[0]? = some (iD (fq xs i 1))) ∧ (((exI xs h k t q s v i) : Int) = (((Int.toNat (exI xs h k t q s v i)) : Nat) : Int)) ∧ ((Int.toNat (exI xs h k t q s v i)) < n) ∧ ((List.drop 1 (List.drop ((Int.toNat (exI xs h k t q s v i)) * 4) (fcD xs)))[0]? = some (iD (fq xs (Int.toNat (exI xs h k t q s v i)) 1))) ∧ (((fq xs i 1) < (fq xs (Int.toNat (exI xs h k t q s v i)) 1)))) (l' := [(0, .e (.c (.d (D.sl (fcD xs) n)))), (1, iV h), (5, rV 0 0), (6, rV 1 0), (7, iV (exI xs h k t q s v i)), (8, iV ↑i), (70, bV true)]) (g' := [(0, some (32, .ds [iD k, iD t, iD q, iD s, D.lit (.int .u64 v), iD f])), (1, some (41, .ds [iD 0, D.lit (.bool false)]))]) (nx' := 2) (by kernel_rfl) ⟨(by omega), rfl, (by omega), (by first | (rw [List.drop_drop]; exact (fc_t0 (by first | omega | (simp only [fcD_len, glD_len, cuD_len, snG_len, List.length_append, List.length_cons, List.length_nil, List.length_take, List.length_drop] <;> omega)))) | (rw [List.drop_drop, Nat.add_comm]; exact (fc_t0 (by first | omega | (simp only [fcD_len, glD_len, cuD_len, snG_len, List.length_append, List.length_cons, List.length_nil, List.length_take, List.length_drop] <;> omega))))), (by first | rfl | omega), (by omega), (by first | (rw [List.drop_drop]; exact (fc_t0 (by first | omega | (simp only [fcD_len, glD_len, cuD_len, snG_len, List.length_append, List.length_cons, List.length_nil, List.length_take, List.length_drop] <;> omega)))) | (rw [List.drop_drop, Nat.add_comm]; exact (fc_t0 (by first | omega | (simp only [fcD_len, glD_len, cuD_len, snG_len, List.length_append, List.length_cons, List.length_nil, List.length_take, List.length_drop] <;> omega))))), (by omega)⟩ ?_
              refine AW.cond_t (.tmp (Look.of rfl)) ?_
              refine AW.rg [.no, .no] [0, 1, 5, 6, 7, 8] [0, 1] (P := True) (l' := [(0, .e (.c (.d (D.sl (fcD xs) n)))), (1, iV h), (5, rV 0 0), (6, rV 1 0), (7, iV ↑i), (8, iV ↑i)]) (g' := [(0, some (32, .ds [iD k, iD t, iD q, iD s, D.lit (.int .u64 v), iD f])), (1, some (41, .ds [iD 0, D.lit (.bool false)]))]) (nx' := 2) (by kernel_rfl) trivial ?_
              have hx10 : exI xs h k t q s v (i + 1) = (i : Int) := ex_yes (by omega) (by omega) (by omega) (by with_reducible assumption)
              refine AW.rg [.no, .w, .no] [0, 1, 5, 6, 7, 8] [0, 1] (P := ((-9223372036854775808) ≤ (((i : Nat) : Int) + 1) ∧ (((i : Nat) : Int) + 1) ≤ 9223372036854775807)) (l' := [(0, .e (.c (.d (D.sl (fcD xs) n)))), (1, iV h), (5, rV 0 0), (6, rV 1 0), (7, iV ↑i), (8, iV (↑i + 1))]) (g' := [(0, some (32, .ds [iD k, iD t, iD q, iD s, D.lit (.int .u64 v), iD f])), (1, some (41, .ds [iD 0, D.lit (.bool false)]))]) (nx' := 2) (by kernel_rfl) ⟨by omega, by omega⟩ ?_
              exact Rd.of ⟨((i + 1) : Nat), (show ((i + 1) ≤ n) from (by first | omega | assumption | simp))⟩ [] (P := (((fcD xs) : List D) = (fcD xs)) ∧ ((n : Nat) = n) ∧ ((h : Int) = h) ∧ ((0 : Nat) = 0) ∧ ((0 : Nat) = 0) ∧ (((exI xs h k t q s v (i + 1)) : Int) = ((i : Nat) : Int)) ∧ (((((i + 1) : Nat) : Int) : Int) = (((i : Nat) : Int) + 1)) ∧ (([iD k, iD t, iD q, iD s, D.lit (.int .u64 v), iD f] : List D) = [iD k, iD t, iD q, iD s, D.lit (.int .u64 v), iD f]) ∧ (([iD 0, D.lit (.bool false)] : List D) = [iD 0, D.lit (.bool false)])) (by kernel_rfl) ⟨rfl, rfl, rfl, rfl, rfl, (by first | rfl | omega | assumption | (simp; done) | (simp; omega)), (by first | rfl | omega | assumption | (simp; done) | (simp; omega)), rfl, rfl⟩ (show n - (i + 1) < n - i from (by first | omega | (show _ < _; simp; omega)))
            · refine AW.rgs [.no, .b false, .no, .no, .no, .n i, .no, .d (iD (fq xs i 1)), .no, .no, .n (Int.toNat (exI xs h k t q s v i)), .no, .d (iD (fq xs (Int.toNat (exI xs h k t q s v i)) 1)), .b false, .no] [0, 1, 5, 6, 7, 8, 70] [0, 1] (P := (¬ ((exI xs h k t q s v i) < 0)) ∧ ((((i : Nat) : Int) : Int) = ((i : Nat) : Int)) ∧ (i < n) ∧ ((List.drop 1 (List.drop (i * 4) (fcD xs)))[0]? = some (iD (fq xs i 1))) ∧ (((exI xs h k t q s v i) : Int) = (((Int.toNat (exI xs h k t q s v i)) : Nat) : Int)) ∧ ((Int.toNat (exI xs h k t q s v i)) < n) ∧ ((List.drop 1 (List.drop ((Int.toNat (exI xs h k t q s v i)) * 4) (fcD xs)))[0]? = some (iD (fq xs (Int.toNat (exI xs h k t q s v i)) 1))) ∧ (¬ ((fq xs i 1) < (fq xs (Int.toNat (exI xs h k t q s v i)) 1)))) (l' := [(0, .e (.c (.d (D.sl (fcD xs) n)))), (1, iV h), (5, rV 0 0), (6, rV 1 0), (7, iV (exI xs h k t q s v i)), (8, iV ↑i), (70, bV false)]) (g' := [(0, some (32, .ds [iD k, iD t, iD q, iD s, D.lit (.int .u64 v), iD f])), (1, some (41, .ds [iD 0, D.lit (.bool false)]))]) (nx' := 2) (by kernel_rfl) ⟨(by omega), rfl, (by omega), (by first | (rw [List.drop_drop]; exact (fc_t0 (by first | omega | (simp only [fcD_len, glD_len, cuD_len, snG_len, List.length_append, List.length_cons, List.length_nil, List.length_take, List.length_drop] <;> omega)))) | (rw [List.drop_drop, Nat.add_comm]; exact (fc_t0 (by first | omega | (simp only [fcD_len, glD_len, cuD_len, snG_len, List.length_append, List.length_cons, List.length_nil, List.length_take, List.length_drop] <;> omega))))), (by first | rfl | omega), (by omega), (by first | (rw [List.drop_drop]; exact (fc_t0 (by first | omega | (simp only [fcD_len, glD_len, cuD_len, snG_len, List.length_append, List.length_cons, List.length_nil, List.length_take, List.length_drop] <;> omega)))) | (rw [List.drop_drop, Nat.add_comm]; exact (fc_t0 (by first | omega | (simp only [fcD_len, glD_len, cuD_len, snG_len, List.length_append, List.length_cons, List.length_nil, List.length_take, List.length_drop] <;> omega))))), (by omega)⟩ ?_
              refine AW.cond_f (.tmp (Look.of rfl)) ?_
              refine AW.skip ?_
              have hx11 : exI xs h k t q s v (i + 1) = exI xs h k t q s v i := ex_no (by omega)
              refine AW.rg [.no, .w, .no] [0, 1, 5, 6, 7, 8] [0, 1] (P := ((-9223372036854775808) ≤ (((i : Nat) : Int) + 1) ∧ (((i : Nat) : Int) + 1) ≤ 9223372036854775807)) (l' := [(0, .e (.c (.d (D.sl (fcD xs) n)))), (1, iV h), (5, rV 0 0), (6, rV 1 0), (7, iV (exI xs h k t q s v i)), (8, iV (↑i + 1))]) (g' := [(0, some (32, .ds [iD k, iD t, iD q, iD s, D.lit (.int .u64 v), iD f])), (1, some (41, .ds [iD 0, D.lit (.bool false)]))]) (nx' := 2) (by kernel_rfl) ⟨by omega, by omega⟩ ?_
              exact Rd.of ⟨((i + 1) : Nat), (show ((i + 1) ≤ n) from (by first | omega | assumption | simp))⟩ [] (P := (((fcD xs) : List D) = (fcD xs)) ∧ ((n : Nat) = n) ∧ ((h : Int) = h) ∧ ((0 : Nat) = 0) ∧ ((0 : Nat) = 0) ∧ (((exI xs h k t q s v (i + 1)) : Int) = (exI xs h k t q s v i)) ∧ (((((i + 1) : Nat) : Int) : Int) = (((i : Nat) : Int) + 1)) ∧ (([iD k, iD t, iD q, iD s, D.lit (.int .u64 v), iD f] : List D) = [iD k, iD t, iD q, iD s, D.lit (.int .u64 v), iD f]) ∧ (([iD 0, D.lit (.bool false)] : List D) = [iD 0, D.lit (.bool false)])) (by kernel_rfl) ⟨rfl, rfl, rfl, rfl, rfl, (by first | rfl | omega | assumption | (simp; done) | (simp; omega)), (by first | rfl | omega | assumption | (simp; done) | (simp; omega)), rfl, rfl⟩ (show n - (i + 1) < n - i from (by first | omega | (show _ < _; simp; omega)))
    · have hx12 : exI xs h k t q s v (i + 1) = exI xs h k t q s v i := ex_nr hx2
      refine AW.rgs [.no, .no, .n i, .ds [iD (fq xs i 0), iD (fq xs i 1), iD (fq xs i 2), D.lit (.int .u64 (fq xs i 3))], .no, .call [] (bV false) [] 0 [] none, .no, .no, .no, .no, .no] [0, 1, 5, 6, 7, 8, 55] [0, 1] (P := ((((i : Nat) : Int) : Int) = ((i : Nat) : Int)) ∧ (i < n) ∧ (List.take 4 (List.drop (i * 4) (fcD xs)) = [iD (fq xs i 0), iD (fq xs i 1), iD (fq xs i 2), D.lit (.int .u64 (fq xs i 3))]) ∧ (([iD (fq xs i 0), iD (fq xs i 1), iD (fq xs i 2), D.lit (.int .u64 (fq xs i 3))] : List D).length = 4) ∧ (Fun 17 [.agg [iC (fq xs i 0), iC (fq xs i 1), iC (fq xs i 2), .d (D.lit (.int .u64 (fq xs i 3)))], .agg [iC k, iC t, iC q, iC s, .d (D.lit (.int .u64 v)), iC f]] (toG []) 0 (bV false) (toG []) 0)) (l' := [(0, .e (.c (.d (D.sl (fcD xs) n)))), (1, iV h), (5, rV 0 0), (6, rV 1 0), (7, iV (exI xs h k t q s v i)), (8, iV ↑i), (55, bV true)]) (g' := [(0, some (32, .ds [iD k, iD t, iD q, iD s, D.lit (.int .u64 v), iD f])), (1, some (41, .ds [iD 0, D.lit (.bool false)]))]) (nx' := 2) (by kernel_rfl) ⟨rfl, (by omega), (fc_at (by first | omega | (simp only [fcD_len, glD_len, cuD_len, snG_len, List.length_append, List.length_cons, List.length_nil, List.length_take, List.length_drop] <;> omega))), rfl, (by have h0 := (Z_rRel (fq xs i 0) (fq xs i 1) (fq xs i 2) (fq xs i 3) k t q s v f (by omega) hg); rw [hx2] at h0; exact h0)⟩ ?_
      refine AW.cond_t (.tmp (Look.of rfl)) ?_
      refine AW.exit ?_
      refine AW.rg [.no, .w, .no] [0, 1, 5, 6, 7, 8] [0, 1] (P := ((-9223372036854775808) ≤ (((i : Nat) : Int) + 1) ∧ (((i : Nat) : Int) + 1) ≤ 9223372036854775807)) (l' := [(0, .e (.c (.d (D.sl (fcD xs) n)))), (1, iV h), (5, rV 0 0), (6, rV 1 0), (7, iV (exI xs h k t q s v i)), (8, iV (↑i + 1))]) (g' := [(0, some (32, .ds [iD k, iD t, iD q, iD s, D.lit (.int .u64 v), iD f])), (1, some (41, .ds [iD 0, D.lit (.bool false)]))]) (nx' := 2) (by kernel_rfl) ⟨by omega, by omega⟩ ?_
      exact Rd.of ⟨((i + 1) : Nat), (show ((i + 1) ≤ n) from (by first | omega | assumption | simp))⟩ [] (P := (((fcD xs) : List D) = (fcD xs)) ∧ ((n : Nat) = n) ∧ ((h : Int) = h) ∧ ((0 : Nat) = 0) ∧ ((0 : Nat) = 0) ∧ (((exI xs h k t q s v (i + 1)) : Int) = (exI xs h k t q s v i)) ∧ (((((i + 1) : Nat) : Int) : Int) = (((i : Nat) : Int) + 1)) ∧ (([iD k, iD t, iD q, iD s, D.lit (.int .u64 v), iD f] : List D) = [iD k, iD t, iD q, iD s, D.lit (.int .u64 v), iD f]) ∧ (([iD 0, D.lit (.bool false)] : List D) = [iD 0, D.lit (.bool false)])) (by kernel_rfl) ⟨rfl, rfl, rfl, rfl, rfl, (by first | rfl | omega | assumption | (simp; done) | (simp; omega)), (by first | rfl | omega | assumption | (simp; done) | (simp; omega)), rfl, rfl⟩ (show n - (i + 1) < n - i from (by first | omega | (show _ < _; simp; omega)))
  · refine AW.rgs [.no, .no, .no, .b false, .no, .no, .no, .no] [0, 1, 5, 6, 7, 8, 20] [0, 1] (P := (¬ (((i : Nat) : Int) < ((n : Nat) : Int)))) (l' := [(0, .e (.c (.d (D.sl (fcD xs) n)))), (1, iV h), (5, rV 0 0), (6, rV 1 0), (7, iV (exI xs h k t q s v i)), (8, iV ↑i), (20, bV false)]) (g' := [(0, some (32, .ds [iD k, iD t, iD q, iD s, D.lit (.int .u64 v), iD f])), (1, some (41, .ds [iD 0, D.lit (.bool false)]))]) (nx' := 2) (by kernel_rfl) (by omega) ?_
    refine AW.cond_f (.tmp (Look.of rfl)) ?_
    refine AW.exit ?_
    by_cases hx13 : ((exI xs h k t q s v i) < 0)
    · refine AW.rgs [.no, .no, .b true, .no, .no] [6] [1] (P := (((exI xs h k t q s v i) < 0))) (l' := [(6, rV 1 0)]) (g' := [(1, some (41, .ds [iD (exI xs h k t q s v i), D.lit (.bool true)]))]) (nx' := 2) (by kernel_rfl) (by omega) ?_
      refine AW.ret ?_
      obtain rfl : n = i := by omega
      exact EndP.of (.inr rfl) [] (P := (((exI xs h k t q s v n) : Int) = (exI xs h k t q s v n)) ∧ ((decide (exI xs h k t q s v n < 0)) = true)) (by kernel_rfl) ⟨rfl, (by first | rfl | assumption | exact decide_eq_true (by omega) | exact decide_eq_false (by omega) | (simp; omega))⟩
    · refine AW.rgs [.no, .no, .b false, .no, .no] [6] [1] (P := (¬ ((exI xs h k t q s v i) < 0))) (l' := [(6, rV 1 0)]) (g' := [(1, some (41, .ds [iD (exI xs h k t q s v i), D.lit (.bool false)]))]) (nx' := 2) (by kernel_rfl) (by omega) ?_
      refine AW.ret ?_
      obtain rfl : n = i := by omega
      exact EndP.of (.inr rfl) [] (P := (((exI xs h k t q s v n) : Int) = (exI xs h k t q s v n)) ∧ ((decide (exI xs h k t q s v n < 0)) = false)) (by kernel_rfl) ⟨rfl, (by first | rfl | assumption | exact decide_eq_true (by omega) | exact decide_eq_false (by omega) | (simp; omega))⟩

set_option maxHeartbeats 4000000 in
set_option maxRecDepth 100000 in
theorem Y_rEx_h (xs : List (List Int)) (n : Nat) (h k t q s v f : Int) (hn : List.length xs = n) (hb : n ≤ 1000000) (hh : -9223372036854775808 ≤ h ∧ h ≤ 9223372036854775807) (hv : 0 ≤ v) (h1 : ¬ (0 ≤ h ∧ h ≤ 1099511627776)) : Fun 26 [.c (.d (D.sl (fcD xs) n)), iE h, .agg [iC k, iC t, iC q, iC s, .d (D.lit (.int .u64 v)), iC f]] (toG []) 0 (.e (.agg [iC (-1), .d (D.lit (.bool true))])) (toG []) 0 := by
  refine Fun.mk (n := 76) Try.func26 rfl rfl (Nat.le_of_ble_eq_true rfl) ?_
  intro cx hcx
  refine AW.rgs [.no, .no] [0, 1, 5, 6] [0, 1] (P := True) (l' := [(0, .e (.c (.d (D.sl (fcD xs) n)))), (1, iV h), (5, rV 0 0), (6, rV 1 0)]) (g' := [(0, some (32, .ds [iD k, iD t, iD q, iD s, D.lit (.int .u64 v), iD f])), (1, some (41, .ds [iD 0, D.lit (.bool false)]))]) (nx' := 2) (by kernel_rfl) trivial ?_
  refine AW.rgs [.no] [0, 1, 5, 6, 7] [0, 1] (P := True) (l' := [(0, .e (.c (.d (D.sl (fcD xs) n)))), (1, iV h), (5, rV 0 0), (6, rV 1 0), (7, iV (-1))]) (g' := [(0, some (32, .ds [iD k, iD t, iD q, iD s, D.lit (.int .u64 v), iD f])), (1, some (41, .ds [iD 0, D.lit (.bool false)]))]) (nx' := 2) (by kernel_rfl) trivial ?_
  refine AW.seq ?_
  refine AW.rgs [.no] [0, 1, 5, 6, 7, 8] [0, 1] (P := True) (l' := [(0, .e (.c (.d (D.sl (fcD xs) n)))), (1, iV h), (5, rV 0 0), (6, rV 1 0), (7, iV (-1)), (8, iV 0)]) (g' := [(0, some (32, .ds [iD k, iD t, iD q, iD s, D.lit (.int .u64 v), iD f])), (1, some (41, .ds [iD 0, D.lit (.bool false)]))]) (nx' := 2) (by kernel_rfl) trivial ?_
  refine AW.block ?_
  refine AW.rounds 1 ?_
  refine AWr.s ?_
  refine AW.seq ?_
  by_cases hx1 : ((0 : Int) < ((n : Nat) : Int))
  · by_cases hx2 : ((0 : Int) ≤ h)
    · refine AW.rgs [.no, .no, .no, .b true, .no, .no, .b true, .no, .no, .no, .b false, .no] [0, 1, 5, 6, 7, 8, 20] [0, 1] (P := (((0 : Int) < ((n : Nat) : Int))) ∧ (((0 : Int) ≤ h)) ∧ (¬ (h ≤ 1099511627776))) (l' := [(0, .e (.c (.d (D.sl (fcD xs) n)))), (1, iV h), (5, rV 0 0), (6, rV 1 0), (7, iV (-1)), (8, iV 0), (20, bV false)]) (g' := [(0, some (32, .ds [iD k, iD t, iD q, iD s, D.lit (.int .u64 v), iD f])), (1, some (41, .ds [iD 0, D.lit (.bool false)]))]) (nx' := 2) (by kernel_rfl) ⟨(by omega), (by omega), (by omega)⟩ ?_
      refine AW.cond_f (.tmp (Look.of rfl)) ?_
      refine AW.exit ?_
      refine AW.rgs [.no, .no, .b true, .no, .no] [6] [1] (P := ((((-1) : Int) < 0))) (l' := [(6, rV 1 0)]) (g' := [(1, some (41, .ds [iD (-1), D.lit (.bool true)]))]) (nx' := 2) (by kernel_rfl) (by omega) ?_
      refine AW.ret ?_
      exact EndP.of (.inr rfl) [] (P := (((-1) : Int) = (-1)) ∧ (true = true)) (by kernel_rfl) ⟨rfl, rfl⟩
    · refine AW.rgs [.no, .no, .no, .b true, .no, .no, .b false, .no, .no, .no] [0, 1, 5, 6, 7, 8, 20] [0, 1] (P := (((0 : Int) < ((n : Nat) : Int))) ∧ (¬ ((0 : Int) ≤ h))) (l' := [(0, .e (.c (.d (D.sl (fcD xs) n)))), (1, iV h), (5, rV 0 0), (6, rV 1 0), (7, iV (-1)), (8, iV 0), (20, bV false)]) (g' := [(0, some (32, .ds [iD k, iD t, iD q, iD s, D.lit (.int .u64 v), iD f])), (1, some (41, .ds [iD 0, D.lit (.bool false)]))]) (nx' := 2) (by kernel_rfl) ⟨(by omega), (by omega)⟩ ?_
      refine AW.cond_f (.tmp (Look.of rfl)) ?_
      refine AW.exit ?_
      refine AW.rgs [.no, .no, .b true, .no, .no] [6] [1] (P := ((((-1) : Int) < 0))) (l' := [(6, rV 1 0)]) (g' := [(1, some (41, .ds [iD (-1), D.lit (.bool true)]))]) (nx' := 2) (by kernel_rfl) (by omega) ?_
      refine AW.ret ?_
      exact EndP.of (.inr rfl) [] (P := (((-1) : Int) = (-1)) ∧ (true = true)) (by kernel_rfl) ⟨rfl, rfl⟩
  · refine AW.rgs [.no, .no, .no, .b false, .no, .no, .no, .no] [0, 1, 5, 6, 7, 8, 20] [0, 1] (P := (¬ ((0 : Int) < ((n : Nat) : Int)))) (l' := [(0, .e (.c (.d (D.sl (fcD xs) n)))), (1, iV h), (5, rV 0 0), (6, rV 1 0), (7, iV (-1)), (8, iV 0), (20, bV false)]) (g' := [(0, some (32, .ds [iD k, iD t, iD q, iD s, D.lit (.int .u64 v), iD f])), (1, some (41, .ds [iD 0, D.lit (.bool false)]))]) (nx' := 2) (by kernel_rfl) (by omega) ?_
    refine AW.cond_f (.tmp (Look.of rfl)) ?_
    refine AW.exit ?_
    refine AW.rgs [.no, .no, .b true, .no, .no] [6] [1] (P := ((((-1) : Int) < 0))) (l' := [(6, rV 1 0)]) (g' := [(1, some (41, .ds [iD (-1), D.lit (.bool true)]))]) (nx' := 2) (by kernel_rfl) (by omega) ?_
    refine AW.ret ?_
    exact EndP.of (.inr rfl) [] (P := (((-1) : Int) = (-1)) ∧ (true = true)) (by kernel_rfl) ⟨rfl, rfl⟩

set_option maxHeartbeats 4000000 in
set_option maxRecDepth 100000 in
theorem Y_rEx_g (xs : List (List Int)) (n : Nat) (h k t q s v f : Int) (hn : List.length xs = n) (hb : n ≤ 1000000) (hh : -9223372036854775808 ≤ h ∧ h ≤ 9223372036854775807) (hv : 0 ≤ v) (h1 : 0 ≤ h ∧ h ≤ 1099511627776) (hg : glB k t q s v f = false) : Fun 26 [.c (.d (D.sl (fcD xs) n)), iE h, .agg [iC k, iC t, iC q, iC s, .d (D.lit (.int .u64 v)), iC f]] (toG []) 0 (.e (.agg [iC (-1), .d (D.lit (.bool true))])) (toG []) 0 := by
  refine Fun.mk (n := 76) Try.func26 rfl rfl (Nat.le_of_ble_eq_true rfl) ?_
  intro cx hcx
  refine AW.rgs [.no, .no] [0, 1, 5, 6] [0, 1] (P := True) (l' := [(0, .e (.c (.d (D.sl (fcD xs) n)))), (1, iV h), (5, rV 0 0), (6, rV 1 0)]) (g' := [(0, some (32, .ds [iD k, iD t, iD q, iD s, D.lit (.int .u64 v), iD f])), (1, some (41, .ds [iD 0, D.lit (.bool false)]))]) (nx' := 2) (by kernel_rfl) trivial ?_
  refine AW.rgs [.no] [0, 1, 5, 6, 7] [0, 1] (P := True) (l' := [(0, .e (.c (.d (D.sl (fcD xs) n)))), (1, iV h), (5, rV 0 0), (6, rV 1 0), (7, iV (-1))]) (g' := [(0, some (32, .ds [iD k, iD t, iD q, iD s, D.lit (.int .u64 v), iD f])), (1, some (41, .ds [iD 0, D.lit (.bool false)]))]) (nx' := 2) (by kernel_rfl) trivial ?_
  refine AW.seq ?_
  refine AW.rgs [.no] [0, 1, 5, 6, 7, 8] [0, 1] (P := True) (l' := [(0, .e (.c (.d (D.sl (fcD xs) n)))), (1, iV h), (5, rV 0 0), (6, rV 1 0), (7, iV (-1)), (8, iV 0)]) (g' := [(0, some (32, .ds [iD k, iD t, iD q, iD s, D.lit (.int .u64 v), iD f])), (1, some (41, .ds [iD 0, D.lit (.bool false)]))]) (nx' := 2) (by kernel_rfl) trivial ?_
  refine AW.block ?_
  refine AW.loopE 0 hcx (fun (x : {x : Nat // match x with | i => (i ≤ n)}) => match x with | ⟨i, _⟩ => (⟨[(0, .e (.c (.d (D.sl (fcD xs) n)))), (1, iV h), (5, rV 0 0), (6, rV 1 0), (7, iV (-1)), (8, iV ((i : Nat) : Int))], [(0, some (32, .ds [iD k, iD t, iD q, iD s, D.lit (.int .u64 v), iD f])), (1, some (41, .ds [iD 0, D.lit (.bool false)]))], 2⟩ : ES)) (fun (x : {x : Nat // match x with | i => (i ≤ n)}) => match x with | ⟨i, _⟩ => n - i) ⟨(0 : Nat), (show ((0 : Nat) ≤ n) from (by first | omega | assumption | simp))⟩ [] (P := (((fcD xs) : List D) = (fcD xs)) ∧ ((n : Nat) = n) ∧ ((h : Int) = h) ∧ ((0 : Nat) = 0) ∧ ((0 : Nat) = 0) ∧ (((-1) : Int) = (-1)) ∧ ((0 : Int) = 0) ∧ (([iD k, iD t, iD q, iD s, D.lit (.int .u64 v), iD f] : List D) = [iD k, iD t, iD q, iD s, D.lit (.int .u64 v), iD f]) ∧ (([iD 0, D.lit (.bool false)] : List D) = [iD 0, D.lit (.bool false)])) (by kernel_rfl) ⟨rfl, rfl, rfl, rfl, rfl, rfl, rfl, rfl, rfl⟩ ?_
  rintro ⟨i, hinv0⟩
  have hi : (i ≤ n) := hinv0
  refine AW.es (l := [(0, .e (.c (.d (D.sl (fcD xs) n)))), (1, iV h), (5, rV 0 0), (6, rV 1 0), (7, iV (-1)), (8, iV ((i : Nat) : Int))]) (g := [(0, some (32, .ds [iD k, iD t, iD q, iD s, D.lit (.int .u64 v), iD f])), (1, some (41, .ds [iD 0, D.lit (.bool false)]))]) (nx := 2) rfl rfl rfl ?_
  refine AW.seq ?_
  by_cases hx1 : (((i : Nat) : Int) < ((n : Nat) : Int))
  · refine AW.rgs [.no, .no, .no, .b true, .no, .no, .b true, .no, .no, .no, .b true, .no] [0, 1, 5, 6, 7, 8, 20] [0, 1] (P := ((((i : Nat) : Int) < ((n : Nat) : Int))) ∧ (((0 : Int) ≤ h)) ∧ ((h ≤ 1099511627776))) (l' := [(0, .e (.c (.d (D.sl (fcD xs) n)))), (1, iV h), (5, rV 0 0), (6, rV 1 0), (7, iV (-1)), (8, iV ↑i), (20, bV true)]) (g' := [(0, some (32, .ds [iD k, iD t, iD q, iD s, D.lit (.int .u64 v), iD f])), (1, some (41, .ds [iD 0, D.lit (.bool false)]))]) (nx' := 2) (by kernel_rfl) ⟨(by omega), (by omega), (by omega)⟩ ?_
    refine AW.cond_t (.tmp (Look.of rfl)) ?_
    refine AW.skip ?_
    refine AW.seq ?_
    refine AW.block ?_
    refine AW.seq ?_
    refine AW.rgs [.no, .no, .n i, .ds [iD (fq xs i 0), iD (fq xs i 1), iD (fq xs i 2), D.lit (.int .u64 (fq xs i 3))], .no, .call [] (bV false) [] 0 [] none, .no, .no, .no, .no, .no] [0, 1, 5, 6, 7, 8, 55] [0, 1] (P := ((((i : Nat) : Int) : Int) = ((i : Nat) : Int)) ∧ (i < n) ∧ (List.take 4 (List.drop (i * 4) (fcD xs)) = [iD (fq xs i 0), iD (fq xs i 1), iD (fq xs i 2), D.lit (.int .u64 (fq xs i 3))]) ∧ (([iD (fq xs i 0), iD (fq xs i 1), iD (fq xs i 2), D.lit (.int .u64 (fq xs i 3))] : List D).length = 4) ∧ (_)) (l' := [(0, .e (.c (.d (D.sl (fcD xs) n)))), (1, iV h), (5, rV 0 0), (6, rV 1 0), (7, iV (-1)), (8, iV ↑i), (55, bV true)]) (g' := [(0, some (32, .ds [iD k, iD t, iD q, iD s, D.lit (.int .u64 v), iD f])), (1, some (41, .ds [iD 0, D.lit (.bool false)]))]) (nx' := 2) (by kernel_rfl) ⟨rfl, (by omega), (fc_at (by first | omega | (simp only [fcD_len, glD_len, cuD_len, snG_len, List.length_append, List.length_cons, List.length_nil, List.length_take, List.length_drop] <;> omega))), rfl, (Y_rRel_no (fq xs i 0) (fq xs i 1) (fq xs i 2) (fq xs i 3) k t q s v f (by omega) hg)⟩ ?_
    refine AW.cond_t (.tmp (Look.of rfl)) ?_
    refine AW.exit ?_
    refine AW.rg [.no, .w, .no] [0, 1, 5, 6, 7, 8] [0, 1] (P := ((-9223372036854775808) ≤ (((i : Nat) : Int) + 1) ∧ (((i : Nat) : Int) + 1) ≤ 9223372036854775807)) (l' := [(0, .e (.c (.d (D.sl (fcD xs) n)))), (1, iV h), (5, rV 0 0), (6, rV 1 0), (7, iV (-1)), (8, iV (↑i + 1))]) (g' := [(0, some (32, .ds [iD k, iD t, iD q, iD s, D.lit (.int .u64 v), iD f])), (1, some (41, .ds [iD 0, D.lit (.bool false)]))]) (nx' := 2) (by kernel_rfl) ⟨by omega, by omega⟩ ?_
    exact Rd.of ⟨((i + 1) : Nat), (show ((i + 1) ≤ n) from (by first | omega | assumption | simp))⟩ [] (P := (((fcD xs) : List D) = (fcD xs)) ∧ ((n : Nat) = n) ∧ ((h : Int) = h) ∧ ((0 : Nat) = 0) ∧ ((0 : Nat) = 0) ∧ (((-1) : Int) = (-1)) ∧ (((((i + 1) : Nat) : Int) : Int) = (((i : Nat) : Int) + 1)) ∧ (([iD k, iD t, iD q, iD s, D.lit (.int .u64 v), iD f] : List D) = [iD k, iD t, iD q, iD s, D.lit (.int .u64 v), iD f]) ∧ (([iD 0, D.lit (.bool false)] : List D) = [iD 0, D.lit (.bool false)])) (by kernel_rfl) ⟨rfl, rfl, rfl, rfl, rfl, rfl, (by first | rfl | omega | assumption | (simp; done) | (simp; omega)), rfl, rfl⟩ (show n - (i + 1) < n - i from (by first | omega | (show _ < _; simp; omega)))
  · refine AW.rgs [.no, .no, .no, .b false, .no, .no, .no, .no] [0, 1, 5, 6, 7, 8, 20] [0, 1] (P := (¬ (((i : Nat) : Int) < ((n : Nat) : Int)))) (l' := [(0, .e (.c (.d (D.sl (fcD xs) n)))), (1, iV h), (5, rV 0 0), (6, rV 1 0), (7, iV (-1)), (8, iV ↑i), (20, bV false)]) (g' := [(0, some (32, .ds [iD k, iD t, iD q, iD s, D.lit (.int .u64 v), iD f])), (1, some (41, .ds [iD 0, D.lit (.bool false)]))]) (nx' := 2) (by kernel_rfl) (by omega) ?_
    refine AW.cond_f (.tmp (Look.of rfl)) ?_
    refine AW.exit ?_
    refine AW.rgs [.no, .no, .b true, .no, .no] [6] [1] (P := ((((-1) : Int) < 0))) (l' := [(6, rV 1 0)]) (g' := [(1, some (41, .ds [iD (-1), D.lit (.bool true)]))]) (nx' := 2) (by kernel_rfl) (by omega) ?_
    refine AW.ret ?_
    exact EndP.of (.inr rfl) [] (P := (((-1) : Int) = (-1)) ∧ (true = true)) (by kernel_rfl) ⟨rfl, rfl⟩

theorem Y_Ex (xs : List (List Int)) (n : Nat) (h k t q s v f : Int) (hn : List.length xs = n) (hb : n ≤ 1000000) (hh : -9223372036854775808 ≤ h ∧ h ≤ 9223372036854775807) (hv : 0 ≤ v) : Fun 15 [.c (.d (D.sl (fcD xs) n)), iE h, .agg [iC k, iC t, iC q, iC s, .d (D.lit (.int .u64 v)), iC f]] (toG []) 0 (.e (.agg [iC (exT xs h k t q s v f n), .d (D.lit (.bool (decide (exT xs h k t q s v f n < 0))))])) (toG []) 0 := by
  by_cases h1 : 0 ≤ h ∧ h ≤ 1099511627776
  · cases hg : glB k t q s v f with
    | false => rw [exT_g hg]; exact Y_Ex_g xs n h k t q s v f hn hb hh hv h1 hg
    | true => rw [exT_ok h1 hg]; exact Z_Explain_ok xs n h k t q s v f hn hb (by omega) hv hg h1
  · rw [exT_h h1]; exact Y_Ex_h xs n h k t q s v f hn hb hh hv h1

theorem Y_rEx (xs : List (List Int)) (n : Nat) (h k t q s v f : Int) (hn : List.length xs = n) (hb : n ≤ 1000000) (hh : -9223372036854775808 ≤ h ∧ h ≤ 9223372036854775807) (hv : 0 ≤ v) : Fun 26 [.c (.d (D.sl (fcD xs) n)), iE h, .agg [iC k, iC t, iC q, iC s, .d (D.lit (.int .u64 v)), iC f]] (toG []) 0 (.e (.agg [iC (exT xs h k t q s v f n), .d (D.lit (.bool (decide (exT xs h k t q s v f n < 0))))])) (toG []) 0 := by
  by_cases h1 : 0 ≤ h ∧ h ≤ 1099511627776
  · cases hg : glB k t q s v f with
    | false => rw [exT_g hg]; exact Y_rEx_g xs n h k t q s v f hn hb hh hv h1 hg
    | true => rw [exT_ok h1 hg]; exact Y_rEx_ok xs n h k t q s v f hn hb hh hv hg h1
  · rw [exT_h h1]; exact Y_rEx_h xs n h k t q s v f hn hb hh hv h1

set_option maxHeartbeats 4000000 in
set_option maxRecDepth 100000 in
theorem Y_All (xs : List (List Int)) (n : Nat) (h : Int) (gs : List (List Int)) (m : Nat) (hn : List.length xs = n) (hb : n ≤ 1000000) (hh : -9223372036854775808 ≤ h ∧ h ≤ 9223372036854775807) (hm : List.length gs = m) (hb2 : m ≤ 1000000) (hg : GOK gs) : Fun 10 [.c (.d (D.sl (fcD xs) n)), iE h, .c (.d (D.sl (glD gs) m))] (toG []) 0 (oV 0 0 m 2) (toG [(0, some (41, .ds (cuD xs n h gs m)))]) 1 := by
  refine Fun.mk (n := 25) Try.func10 rfl rfl (Nat.le_of_ble_eq_true rfl) ?_
  intro cx hcx
  refine AW.rgs [.no] [0, 1, 2] [] (P := True) (l' := [(0, .e (.c (.d (D.sl (fcD xs) n)))), (1, iV h), (2, .e (.c (.d (D.sl (glD gs) m))))]) (g' := []) (nx' := 0) (by kernel_rfl) trivial ?_
  refine AW.rgs [.no] [0, 1, 2, 7] [] (P := True) (l' := [(0, .e (.c (.d (D.sl (fcD xs) n)))), (1, iV h), (2, .e (.c (.d (D.sl (glD gs) m)))), (7, nV)]) (g' := []) (nx' := 0) (by kernel_rfl) trivial ?_
  refine AW.seq ?_
  refine AW.rgs [.no, .no, .no] [0, 1, 7, 10, 11, 12] [] (P := True) (l' := [(0, .e (.c (.d (D.sl (fcD xs) n)))), (1, iV h), (7, nV), (10, .e (.c (.d (D.sl (glD gs) m)))), (11, iV ↑m), (12, iV 0)]) (g' := []) (nx' := 0) (by kernel_rfl) trivial ?_
  refine AW.block ?_
  refine AW.adoptS 7 2 41 rfl ?_
  refine AW.loopE 0 hcx (fun (x : {x : Nat // match x with | i => (i ≤ m)}) => match x with | ⟨i, _⟩ => (⟨[(0, .e (.c (.d (D.sl (fcD xs) n)))), (1, iV h), (7, oV 0 0 i 2), (10, .e (.c (.d (D.sl (glD gs) m)))), (11, iV ((m : Nat) : Int)), (12, iV ((i : Nat) : Int))], [(0, some (41, .ds (cuD xs n h gs i)))], 1⟩ : ES)) (fun (x : {x : Nat // match x with | i => (i ≤ m)}) => match x with | ⟨i, _⟩ => m - i) ⟨(0 : Nat), (show ((0 : Nat) ≤ m) from (by first | omega | assumption | simp))⟩ [] (P := (((fcD xs) : List D) = (fcD xs)) ∧ ((n : Nat) = n) ∧ ((h : Int) = h) ∧ ((0 : Nat) = 0) ∧ ((0 : Nat) = 0) ∧ (((glD gs) : List D) = (glD gs)) ∧ ((m : Nat) = m) ∧ ((((m : Nat) : Int) : Int) = ((m : Nat) : Int)) ∧ ((0 : Int) = 0) ∧ (((cuD xs n h gs 0) : List D) = ([] : List D))) (by kernel_rfl) ⟨rfl, rfl, rfl, rfl, rfl, rfl, rfl, rfl, rfl, (by first | rfl)⟩ ?_
  rintro ⟨i, hinv0⟩
  have hi : (i ≤ m) := hinv0
  refine AW.es (l := [(0, .e (.c (.d (D.sl (fcD xs) n)))), (1, iV h), (7, oV 0 0 i 2), (10, .e (.c (.d (D.sl (glD gs) m)))), (11, iV ((m : Nat) : Int)), (12, iV ((i : Nat) : Int))]) (g := [(0, some (41, .ds (cuD xs n h gs i)))]) (nx := 1) rfl rfl rfl ?_
  by_cases hx1 : (((i : Nat) : Int) < ((m : Nat) : Int))
  · refine AW.rgs [.b true] [0, 1, 7, 10, 11, 12, 13] [0] (P := ((((i : Nat) : Int) < ((m : Nat) : Int)))) (l' := [(0, .e (.c (.d (D.sl (fcD xs) n)))), (1, iV h), (7, oV 0 0 i 2), (10, .e (.c (.d (D.sl (glD gs) m)))), (11, iV ↑m), (12, iV ↑i), (13, bV true)]) (g' := [(0, some (41, .ds (cuD xs n h gs i)))]) (nx' := 1) (by kernel_rfl) (by omega) ?_
    refine AW.seq ?_
    refine AW.cond_t (.tmp (Look.of rfl)) ?_
    refine AW.skip ?_
    refine AW.seq ?_
    refine AW.block ?_
    have hx2 : ((0 : Int) ≤ (gq gs i 4)) := hg _ (by omega)
    refine AW.rgs [.n i, .ds [iD (gq gs i 0), iD (gq gs i 1), iD (gq gs i 2), iD (gq gs i 3), D.lit (.int .u64 (gq gs i 4)), iD (gq gs i 5)], .no, .no] [0, 1, 7, 9, 10, 11, 12] [0, 1] (P := ((((i : Nat) : Int) : Int) = ((i : Nat) : Int)) ∧ (i < m) ∧ (List.take 6 (List.drop (i * 6) (glD gs)) = [iD (gq gs i 0), iD (gq gs i 1), iD (gq gs i 2), iD (gq gs i 3), D.lit (.int .u64 (gq gs i 4)), iD (gq gs i 5)]) ∧ (([iD (gq gs i 0), iD (gq gs i 1), iD (gq gs i 2), iD (gq gs i 3), D.lit (.int .u64 (gq gs i 4)), iD (gq gs i 5)] : List D).length = 6)) (l' := [(0, .e (.c (.d (D.sl (fcD xs) n)))), (1, iV h), (7, oV 0 0 i 2), (9, rV 1 0), (10, .e (.c (.d (D.sl (glD gs) m)))), (11, iV ↑m), (12, iV ↑i)]) (g' := [(0, some (41, .ds (cuD xs n h gs i))), (1, some (32, .ds [iD (gq gs i 0), iD (gq gs i 1), iD (gq gs i 2), iD (gq gs i 3), D.lit (.int .u64 (gq gs i 4)), iD (gq gs i 5)]))]) (nx' := 2) (by kernel_rfl) ⟨rfl, (by omega), (gl_at (by first | omega | (simp only [fcD_len, glD_len, cuD_len, snG_len, List.length_append, List.length_cons, List.length_nil, List.length_take, List.length_drop] <;> omega))), rfl⟩ ?_
    rcases Bool.eq_false_or_eq_true (decide (exT xs h (gq gs i 0) (gq gs i 1) (gq gs i 2) (gq gs i 3) (gq gs i 4) (gq gs i 5) n < 0)) with hx3 | hx3
    · have hx4 : ((exT xs h (gq gs i 0) (gq gs i 1) (gq gs i 2) (gq gs i 3) (gq gs i 4) (gq gs i 5) n) < 0) := of_decide_eq_true hx3
      refine AW.rg [.no, .no, .no, .no, .call [] (.e (.agg [iC (exT xs h (gq gs i 0) (gq gs i 1) (gq gs i 2) (gq gs i 3) (gq gs i 4) (gq gs i 5) n), .d (D.lit (.bool true))])) [] 0 [] none, .no, .ap none (i + 1) (cuD xs n h gs (i + 1)), .no] [0, 1, 7, 10, 11, 12] [3] (P := (Fun 15 [.c (.d (D.sl (fcD xs) n)), iE h, .agg [iC (gq gs i 0), iC (gq gs i 1), iC (gq gs i 2), iC (gq gs i 3), .d (D.lit (.int .u64 (gq gs i 4))), iC (gq gs i 5)]] (toG []) 0 (.e (.agg [iC (exT xs h (gq gs i 0) (gq gs i 1) (gq gs i 2) (gq gs i 3) (gq gs i 4) (gq gs i 5) n), .d (D.lit (.bool true))])) (toG []) 0) ∧ ([iD (exT xs h (gq gs i 0) (gq gs i 1) (gq gs i 2) (gq gs i 3) (gq gs i 4) (gq gs i 5) n), D.lit (.bool true)].length = 1 * 2) ∧ (((cuD xs n h gs i) : List D).length = i * 2) ∧ ((i + 1) * 16 ≤ 140737488355328) ∧ (i + 1 = (i + 1)) ∧ (((cuD xs n h gs i) : List D) ++ [iD (exT xs h (gq gs i 0) (gq gs i 1) (gq gs i 2) (gq gs i 3) (gq gs i 4) (gq gs i 5) n), D.lit (.bool true)] = (cuD xs n h gs (i + 1)))) (l' := [(0, .e (.c (.d (D.sl (fcD xs) n)))), (1, iV h), (7, oV 3 0 (i + 1) 2), (10, .e (.c (.d (D.sl (glD gs) m)))), (11, iV ↑m), (12, iV ↑i)]) (g' := [(3, some (41, .ds (cuD xs n h gs (i + 1))))]) (nx' := 4) (by kernel_rfl) ⟨(by have h0 := (Y_Ex xs n h (gq gs i 0) (gq gs i 1) (gq gs i 2) (gq gs i 3) (gq gs i 4) (gq gs i 5) (by omega) (by omega) (by omega) (by omega)); rw [hx3] at h0; exact h0), (by first | omega | (simp only [fcD_len, glD_len, cuD_len, snG_len, dI_len, List.length_append, List.length_cons, List.length_nil, List.length_take, List.length_drop, List.length_replicate, List.length_set, List.length_map, List.length_reverse, Nat.mul_one] <;> omega) | rfl), (by first | omega | (simp only [fcD_len, glD_len, cuD_len, snG_len, dI_len, List.length_append, List.length_cons, List.length_nil, List.length_take, List.length_drop, List.length_replicate, List.length_set, List.length_map, List.length_reverse, Nat.mul_one] <;> omega) | rfl), (by omega), (by omega), (cu_nx (decide_eq_true (by omega)))⟩ ?_
      refine AW.rg [.w, .no] [0, 1, 7, 10, 11, 12] [3] (P := ((-9223372036854775808) ≤ (((i : Nat) : Int) + 1) ∧ (((i : Nat) : Int) + 1) ≤ 9223372036854775807)) (l' := [(0, .e (.c (.d (D.sl (fcD xs) n)))), (1, iV h), (7, oV 3 0 (i + 1) 2), (10, .e (.c (.d (D.sl (glD gs) m)))), (11, iV ↑m), (12, iV (↑i + 1))]) (g' := [(3, some (41, .ds (cuD xs n h gs (i + 1))))]) (nx' := 4) (by kernel_rfl) ⟨by omega, by omega⟩ ?_
      exact Rd.of ⟨((i + 1) : Nat), (show ((i + 1) ≤ m) from (by first | omega | assumption | simp))⟩ [(0, 3)] (P := (((fcD xs) : List D) = (fcD xs)) ∧ ((n : Nat) = n) ∧ ((h : Int) = h) ∧ ((0 : Nat) = 0) ∧ (((i + 1) : Nat) = (i + 1)) ∧ (((glD gs) : List D) = (glD gs)) ∧ ((m : Nat) = m) ∧ ((((m : Nat) : Int) : Int) = ((m : Nat) : Int)) ∧ (((((i + 1) : Nat) : Int) : Int) = (((i : Nat) : Int) + 1)) ∧ (((cuD xs n h gs (i + 1)) : List D) = (cuD xs n h gs (i + 1)))) (by kernel_rfl) ⟨rfl, rfl, rfl, rfl, rfl, rfl, rfl, rfl, (by first | rfl | omega | assumption | (simp; done) | (simp; omega)), rfl⟩ (show m - (i + 1) < m - i from (by first | omega | (show _ < _; simp; omega)))
    · have hx5 : ¬ ((exT xs h (gq gs i 0) (gq gs i 1) (gq gs i 2) (gq gs i 3) (gq gs i 4) (gq gs i 5) n) < 0) := of_decide_eq_false hx3
      refine AW.rg [.no, .no, .no, .no, .call [] (.e (.agg [iC (exT xs h (gq gs i 0) (gq gs i 1) (gq gs i 2) (gq gs i 3) (gq gs i 4) (gq gs i 5) n), .d (D.lit (.bool false))])) [] 0 [] none, .no, .ap none (i + 1) (cuD xs n h gs (i + 1)), .no] [0, 1, 7, 10, 11, 12] [3] (P := (Fun 15 [.c (.d (D.sl (fcD xs) n)), iE h, .agg [iC (gq gs i 0), iC (gq gs i 1), iC (gq gs i 2), iC (gq gs i 3), .d (D.lit (.int .u64 (gq gs i 4))), iC (gq gs i 5)]] (toG []) 0 (.e (.agg [iC (exT xs h (gq gs i 0) (gq gs i 1) (gq gs i 2) (gq gs i 3) (gq gs i 4) (gq gs i 5) n), .d (D.lit (.bool false))])) (toG []) 0) ∧ ([iD (exT xs h (gq gs i 0) (gq gs i 1) (gq gs i 2) (gq gs i 3) (gq gs i 4) (gq gs i 5) n), D.lit (.bool false)].length = 1 * 2) ∧ (((cuD xs n h gs i) : List D).length = i * 2) ∧ ((i + 1) * 16 ≤ 140737488355328) ∧ (i + 1 = (i + 1)) ∧ (((cuD xs n h gs i) : List D) ++ [iD (exT xs h (gq gs i 0) (gq gs i 1) (gq gs i 2) (gq gs i 3) (gq gs i 4) (gq gs i 5) n), D.lit (.bool false)] = (cuD xs n h gs (i + 1)))) (l' := [(0, .e (.c (.d (D.sl (fcD xs) n)))), (1, iV h), (7, oV 3 0 (i + 1) 2), (10, .e (.c (.d (D.sl (glD gs) m)))), (11, iV ↑m), (12, iV ↑i)]) (g' := [(3, some (41, .ds (cuD xs n h gs (i + 1))))]) (nx' := 4) (by kernel_rfl) ⟨(by have h0 := (Y_Ex xs n h (gq gs i 0) (gq gs i 1) (gq gs i 2) (gq gs i 3) (gq gs i 4) (gq gs i 5) (by omega) (by omega) (by omega) (by omega)); rw [hx3] at h0; exact h0), (by first | omega | (simp only [fcD_len, glD_len, cuD_len, snG_len, dI_len, List.length_append, List.length_cons, List.length_nil, List.length_take, List.length_drop, List.length_replicate, List.length_set, List.length_map, List.length_reverse, Nat.mul_one] <;> omega) | rfl), (by first | omega | (simp only [fcD_len, glD_len, cuD_len, snG_len, dI_len, List.length_append, List.length_cons, List.length_nil, List.length_take, List.length_drop, List.length_replicate, List.length_set, List.length_map, List.length_reverse, Nat.mul_one] <;> omega) | rfl), (by omega), (by omega), (cu_nx (decide_eq_false (by omega)))⟩ ?_
      refine AW.rg [.w, .no] [0, 1, 7, 10, 11, 12] [3] (P := ((-9223372036854775808) ≤ (((i : Nat) : Int) + 1) ∧ (((i : Nat) : Int) + 1) ≤ 9223372036854775807)) (l' := [(0, .e (.c (.d (D.sl (fcD xs) n)))), (1, iV h), (7, oV 3 0 (i + 1) 2), (10, .e (.c (.d (D.sl (glD gs) m)))), (11, iV ↑m), (12, iV (↑i + 1))]) (g' := [(3, some (41, .ds (cuD xs n h gs (i + 1))))]) (nx' := 4) (by kernel_rfl) ⟨by omega, by omega⟩ ?_
      exact Rd.of ⟨((i + 1) : Nat), (show ((i + 1) ≤ m) from (by first | omega | assumption | simp))⟩ [(0, 3)] (P := (((fcD xs) : List D) = (fcD xs)) ∧ ((n : Nat) = n) ∧ ((h : Int) = h) ∧ ((0 : Nat) = 0) ∧ (((i + 1) : Nat) = (i + 1)) ∧ (((glD gs) : List D) = (glD gs)) ∧ ((m : Nat) = m) ∧ ((((m : Nat) : Int) : Int) = ((m : Nat) : Int)) ∧ (((((i + 1) : Nat) : Int) : Int) = (((i : Nat) : Int) + 1)) ∧ (((cuD xs n h gs (i + 1)) : List D) = (cuD xs n h gs (i + 1)))) (by kernel_rfl) ⟨rfl, rfl, rfl, rfl, rfl, rfl, rfl, rfl, (by first | rfl | omega | assumption | (simp; done) | (simp; omega)), rfl⟩ (show m - (i + 1) < m - i from (by first | omega | (show _ < _; simp; omega)))
  · refine AW.rgs [.b false] [0, 1, 7, 10, 11, 12, 13] [0] (P := (¬ (((i : Nat) : Int) < ((m : Nat) : Int)))) (l' := [(0, .e (.c (.d (D.sl (fcD xs) n)))), (1, iV h), (7, oV 0 0 i 2), (10, .e (.c (.d (D.sl (glD gs) m)))), (11, iV ↑m), (12, iV ↑i), (13, bV false)]) (g' := [(0, some (41, .ds (cuD xs n h gs i)))]) (nx' := 1) (by kernel_rfl) (by omega) ?_
    refine AW.seq ?_
    refine AW.cond_f (.tmp (Look.of rfl)) ?_
    refine AW.exit ?_
    refine AW.rgs [.no, .no] [6] [0] (P := True) (l' := [(6, oV 0 0 i 2)]) (g' := [(0, some (41, .ds (cuD xs n h gs i)))]) (nx' := 1) (by kernel_rfl) trivial ?_
    refine AW.ret ?_
    obtain rfl : m = i := by omega
    exact EndP.of (.inr rfl) [] (P := ((0 : Nat) = 0) ∧ ((m : Nat) = m) ∧ (((cuD xs n h gs m) : List D) = (cuD xs n h gs m))) (by kernel_rfl) ⟨rfl, rfl, rfl⟩

set_option maxHeartbeats 4000000 in
set_option maxRecDepth 100000 in
theorem Y_rAll (xs : List (List Int)) (n : Nat) (h : Int) (gs : List (List Int)) (m : Nat) (hn : List.length xs = n) (hb : n ≤ 1000000) (hh : -9223372036854775808 ≤ h ∧ h ≤ 9223372036854775807) (hm : List.length gs = m) (hb2 : m ≤ 1000000) (hg : GOK gs) : Fun 11 [.c (.d (D.sl (fcD xs) n)), iE h, .c (.d (D.sl (glD gs) m))] (toG []) 0 (oV 0 0 m 2) (toG [(0, some (41, .ds (cuD xs n h gs m)))]) 1 := by
  refine Fun.mk (n := 26) Try.func11 rfl rfl (Nat.le_of_ble_eq_true rfl) ?_
  intro cx hcx
  refine AW.rgs [.no] [0, 1, 2] [] (P := True) (l' := [(0, .e (.c (.d (D.sl (fcD xs) n)))), (1, iV h), (2, .e (.c (.d (D.sl (glD gs) m))))]) (g' := []) (nx' := 0) (by kernel_rfl) trivial ?_
  refine AW.rgs [.no] [0, 1, 2, 7] [] (P := True) (l' := [(0, .e (.c (.d (D.sl (fcD xs) n)))), (1, iV h), (2, .e (.c (.d (D.sl (glD gs) m)))), (7, nV)]) (g' := []) (nx' := 0) (by kernel_rfl) trivial ?_
  refine AW.seq ?_
  refine AW.rgs [.no] [0, 1, 2, 7, 8] [] (P := True) (l' := [(0, .e (.c (.d (D.sl (fcD xs) n)))), (1, iV h), (2, .e (.c (.d (D.sl (glD gs) m)))), (7, nV), (8, iV 0)]) (g' := []) (nx' := 0) (by kernel_rfl) trivial ?_
  refine AW.block ?_
  refine AW.adoptS 7 2 41 rfl ?_
  refine AW.loopE 0 hcx (fun (x : {x : Nat // match x with | i => (i ≤ m)}) => match x with | ⟨i, _⟩ => (⟨[(0, .e (.c (.d (D.sl (fcD xs) n)))), (1, iV h), (2, .e (.c (.d (D.sl (glD gs) m)))), (7, oV 0 0 i 2), (8, iV ((i : Nat) : Int))], [(0, some (41, .ds (cuD xs n h gs i)))], 1⟩ : ES)) (fun (x : {x : Nat // match x with | i => (i ≤ m)}) => match x with | ⟨i, _⟩ => m - i) ⟨(0 : Nat), (show ((0 : Nat) ≤ m) from (by first | omega | assumption | simp))⟩ [] (P := (((fcD xs) : List D) = (fcD xs)) ∧ ((n : Nat) = n) ∧ ((h : Int) = h) ∧ (((glD gs) : List D) = (glD gs)) ∧ ((m : Nat) = m) ∧ ((0 : Nat) = 0) ∧ ((0 : Nat) = 0) ∧ ((0 : Int) = 0) ∧ (((cuD xs n h gs 0) : List D) = ([] : List D))) (by kernel_rfl) ⟨rfl, rfl, rfl, rfl, rfl, rfl, rfl, rfl, (by first | rfl)⟩ ?_
  rintro ⟨i, hinv0⟩
  have hi : (i ≤ m) := hinv0
  refine AW.es (l := [(0, .e (.c (.d (D.sl (fcD xs) n)))), (1, iV h), (2, .e (.c (.d (D.sl (glD gs) m)))), (7, oV 0 0 i 2), (8, iV ((i : Nat) : Int))]) (g := [(0, some (41, .ds (cuD xs n h gs i)))]) (nx := 1) rfl rfl rfl ?_
  refine AW.seq ?_
  by_cases hx1 : (((i : Nat) : Int) < ((m : Nat) : Int))
  · refine AW.rgs [.no, .no, .no, .b true] [0, 1, 2, 7, 8, 12] [0] (P := ((((i : Nat) : Int) < ((m : Nat) : Int)))) (l' := [(0, .e (.c (.d (D.sl (fcD xs) n)))), (1, iV h), (2, .e (.c (.d (D.sl (glD gs) m)))), (7, oV 0 0 i 2), (8, iV ↑i), (12, bV true)]) (g' := [(0, some (41, .ds (cuD xs n h gs i)))]) (nx' := 1) (by kernel_rfl) (by omega) ?_
    refine AW.cond_t (.tmp (Look.of rfl)) ?_
    refine AW.skip ?_
    refine AW.seq ?_
    refine AW.block ?_
    rcases Bool.eq_false_or_eq_true (decide (exT xs h (gq gs i 0) (gq gs i 1) (gq gs i 2) (gq gs i 3) (gq gs i 4) (gq gs i 5) n < 0)) with hx3 | hx3
    · have hx4 : ((exT xs h (gq gs i 0) (gq gs i 1) (gq gs i 2) (gq gs i 3) (gq gs i 4) (gq gs i 5) n) < 0) := of_decide_eq_true hx3
      have hx5 : ((0 : Int) ≤ (gq gs i 4)) := hg _ (by omega)
      refine AW.rg [.no, .no, .no, .no, .no, .n i, .ds [iD (gq gs i 0), iD (gq gs i 1), iD (gq gs i 2), iD (gq gs i 3), D.lit (.int .u64 (gq gs i 4)), iD (gq gs i 5)], .call [] (.e (.agg [iC (exT xs h (gq gs i 0) (gq gs i 1) (gq gs i 2) (gq gs i 3) (gq gs i 4) (gq gs i 5) n), .d (D.lit (.bool true))])) [] 0 [] none, .no, .ap none (i + 1) (cuD xs n h gs (i + 1)), .no] [0, 1, 2, 7, 8] [2] (P := ((((i : Nat) : Int) : Int) = ((i : Nat) : Int)) ∧ (i < m) ∧ (List.take 6 (List.drop (i * 6) (glD gs)) = [iD (gq gs i 0), iD (gq gs i 1), iD (gq gs i 2), iD (gq gs i 3), D.lit (.int .u64 (gq gs i 4)), iD (gq gs i 5)]) ∧ (([iD (gq gs i 0), iD (gq gs i 1), iD (gq gs i 2), iD (gq gs i 3), D.lit (.int .u64 (gq gs i 4)), iD (gq gs i 5)] : List D).length = 6) ∧ (Fun 26 [.c (.d (D.sl (fcD xs) n)), iE h, .agg [iC (gq gs i 0), iC (gq gs i 1), iC (gq gs i 2), iC (gq gs i 3), .d (D.lit (.int .u64 (gq gs i 4))), iC (gq gs i 5)]] (toG []) 0 (.e (.agg [iC (exT xs h (gq gs i 0) (gq gs i 1) (gq gs i 2) (gq gs i 3) (gq gs i 4) (gq gs i 5) n), .d (D.lit (.bool true))])) (toG []) 0) ∧ ([iD (exT xs h (gq gs i 0) (gq gs i 1) (gq gs i 2) (gq gs i 3) (gq gs i 4) (gq gs i 5) n), D.lit (.bool true)].length = 1 * 2) ∧ (((cuD xs n h gs i) : List D).length = i * 2) ∧ ((i + 1) * 16 ≤ 140737488355328) ∧ (i + 1 = (i + 1)) ∧ (((cuD xs n h gs i) : List D) ++ [iD (exT xs h (gq gs i 0) (gq gs i 1) (gq gs i 2) (gq gs i 3) (gq gs i 4) (gq gs i 5) n), D.lit (.bool true)] = (cuD xs n h gs (i + 1)))) (l' := [(0, .e (.c (.d (D.sl (fcD xs) n)))), (1, iV h), (2, .e (.c (.d (D.sl (glD gs) m)))), (7, oV 2 0 (i + 1) 2), (8, iV ↑i)]) (g' := [(2, some (41, .ds (cuD xs n h gs (i + 1))))]) (nx' := 3) (by kernel_rfl) ⟨rfl, (by omega), (gl_at (by first | omega | (simp only [fcD_len, glD_len, cuD_len, snG_len, List.length_append, List.length_cons, List.length_nil, List.length_take, List.length_drop] <;> omega))), rfl, (by have h0 := (Y_rEx xs n h (gq gs i 0) (gq gs i 1) (gq gs i 2) (gq gs i 3) (gq gs i 4) (gq gs i 5) (by omega) (by omega) (by omega) (by omega)); rw [hx3] at h0; exact h0), (by first | omega | (simp only [fcD_len, glD_len, cuD_len, snG_len, dI_len, List.length_append, List.length_cons, List.length_nil, List.length_take, List.length_drop, List.length_replicate, List.length_set, List.length_map, List.length_reverse, Nat.mul_one] <;> omega) | rfl), (by first | omega | (simp only [fcD_len, glD_len, cuD_len, snG_len, dI_len, List.length_append, List.length_cons, List.length_nil, List.length_take, List.length_drop, List.length_replicate, List.length_set, List.length_map, List.length_reverse, Nat.mul_one] <;> omega) | rfl), (by omega), (by omega), (cu_nx (decide_eq_true (by omega)))⟩ ?_
      refine AW.rg [.no, .w, .no] [0, 1, 2, 7, 8] [2] (P := ((-9223372036854775808) ≤ (((i : Nat) : Int) + 1) ∧ (((i : Nat) : Int) + 1) ≤ 9223372036854775807)) (l' := [(0, .e (.c (.d (D.sl (fcD xs) n)))), (1, iV h), (2, .e (.c (.d (D.sl (glD gs) m)))), (7, oV 2 0 (i + 1) 2), (8, iV (↑i + 1))]) (g' := [(2, some (41, .ds (cuD xs n h gs (i + 1))))]) (nx' := 3) (by kernel_rfl) ⟨by omega, by omega⟩ ?_
      exact Rd.of ⟨((i + 1) : Nat), (show ((i + 1) ≤ m) from (by first | omega | assumption | simp))⟩ [(0, 2)] (P := (((fcD xs) : List D) = (fcD xs)) ∧ ((n : Nat) = n) ∧ ((h : Int) = h) ∧ (((glD gs) : List D) = (glD gs)) ∧ ((m : Nat) = m) ∧ ((0 : Nat) = 0) ∧ (((i + 1) : Nat) = (i + 1)) ∧ (((((i + 1) : Nat) : Int) : Int) = (((i : Nat) : Int) + 1)) ∧ (((cuD xs n h gs (i + 1)) : List D) = (cuD xs n h gs (i + 1)))) (by kernel_rfl) ⟨rfl, rfl, rfl, rfl, rfl, rfl, rfl, (by first | rfl | omega | assumption | (simp; done) | (simp; omega)), rfl⟩ (show m - (i + 1) < m - i from (by first | omega | (show _ < _; simp; omega)))
    · have hx6 : ¬ ((exT xs h (gq gs i 0) (gq gs i 1) (gq gs i 2) (gq gs i 3) (gq gs i 4) (gq gs i 5) n) < 0) := of_decide_eq_false hx3
      have hx7 : ((0 : Int) ≤ (gq gs i 4)) := hg _ (by omega)
      refine AW.rg [.no, .no, .no, .no, .no, .n i, .ds [iD (gq gs i 0), iD (gq gs i 1), iD (gq gs i 2), iD (gq gs i 3), D.lit (.int .u64 (gq gs i 4)), iD (gq gs i 5)], .call [] (.e (.agg [iC (exT xs h (gq gs i 0) (gq gs i 1) (gq gs i 2) (gq gs i 3) (gq gs i 4) (gq gs i 5) n), .d (D.lit (.bool false))])) [] 0 [] none, .no, .ap none (i + 1) (cuD xs n h gs (i + 1)), .no] [0, 1, 2, 7, 8] [2] (P := ((((i : Nat) : Int) : Int) = ((i : Nat) : Int)) ∧ (i < m) ∧ (List.take 6 (List.drop (i * 6) (glD gs)) = [iD (gq gs i 0), iD (gq gs i 1), iD (gq gs i 2), iD (gq gs i 3), D.lit (.int .u64 (gq gs i 4)), iD (gq gs i 5)]) ∧ (([iD (gq gs i 0), iD (gq gs i 1), iD (gq gs i 2), iD (gq gs i 3), D.lit (.int .u64 (gq gs i 4)), iD (gq gs i 5)] : List D).length = 6) ∧ (Fun 26 [.c (.d (D.sl (fcD xs) n)), iE h, .agg [iC (gq gs i 0), iC (gq gs i 1), iC (gq gs i 2), iC (gq gs i 3), .d (D.lit (.int .u64 (gq gs i 4))), iC (gq gs i 5)]] (toG []) 0 (.e (.agg [iC (exT xs h (gq gs i 0) (gq gs i 1) (gq gs i 2) (gq gs i 3) (gq gs i 4) (gq gs i 5) n), .d (D.lit (.bool false))])) (toG []) 0) ∧ ([iD (exT xs h (gq gs i 0) (gq gs i 1) (gq gs i 2) (gq gs i 3) (gq gs i 4) (gq gs i 5) n), D.lit (.bool false)].length = 1 * 2) ∧ (((cuD xs n h gs i) : List D).length = i * 2) ∧ ((i + 1) * 16 ≤ 140737488355328) ∧ (i + 1 = (i + 1)) ∧ (((cuD xs n h gs i) : List D) ++ [iD (exT xs h (gq gs i 0) (gq gs i 1) (gq gs i 2) (gq gs i 3) (gq gs i 4) (gq gs i 5) n), D.lit (.bool false)] = (cuD xs n h gs (i + 1)))) (l' := [(0, .e (.c (.d (D.sl (fcD xs) n)))), (1, iV h), (2, .e (.c (.d (D.sl (glD gs) m)))), (7, oV 2 0 (i + 1) 2), (8, iV ↑i)]) (g' := [(2, some (41, .ds (cuD xs n h gs (i + 1))))]) (nx' := 3) (by kernel_rfl) ⟨rfl, (by omega), (gl_at (by first | omega | (simp only [fcD_len, glD_len, cuD_len, snG_len, List.length_append, List.length_cons, List.length_nil, List.length_take, List.length_drop] <;> omega))), rfl, (by have h0 := (Y_rEx xs n h (gq gs i 0) (gq gs i 1) (gq gs i 2) (gq gs i 3) (gq gs i 4) (gq gs i 5) (by omega) (by omega) (by omega) (by omega)); rw [hx3] at h0; exact h0), (by first | omega | (simp only [fcD_len, glD_len, cuD_len, snG_len, dI_len, List.length_append, List.length_cons, List.length_nil, List.length_take, List.length_drop, List.length_replicate, List.length_set, List.length_map, List.length_reverse, Nat.mul_one] <;> omega) | rfl), (by first | omega | (simp only [fcD_len, glD_len, cuD_len, snG_len, dI_len, List.length_append, List.length_cons, List.length_nil, List.length_take, List.length_drop, List.length_replicate, List.length_set, List.length_map, List.length_reverse, Nat.mul_one] <;> omega) | rfl), (by omega), (by omega), (cu_nx (decide_eq_false (by omega)))⟩ ?_
      refine AW.rg [.no, .w, .no] [0, 1, 2, 7, 8] [2] (P := ((-9223372036854775808) ≤ (((i : Nat) : Int) + 1) ∧ (((i : Nat) : Int) + 1) ≤ 9223372036854775807)) (l' := [(0, .e (.c (.d (D.sl (fcD xs) n)))), (1, iV h), (2, .e (.c (.d (D.sl (glD gs) m)))), (7, oV 2 0 (i + 1) 2), (8, iV (↑i + 1))]) (g' := [(2, some (41, .ds (cuD xs n h gs (i + 1))))]) (nx' := 3) (by kernel_rfl) ⟨by omega, by omega⟩ ?_
      exact Rd.of ⟨((i + 1) : Nat), (show ((i + 1) ≤ m) from (by first | omega | assumption | simp))⟩ [(0, 2)] (P := (((fcD xs) : List D) = (fcD xs)) ∧ ((n : Nat) = n) ∧ ((h : Int) = h) ∧ (((glD gs) : List D) = (glD gs)) ∧ ((m : Nat) = m) ∧ ((0 : Nat) = 0) ∧ (((i + 1) : Nat) = (i + 1)) ∧ (((((i + 1) : Nat) : Int) : Int) = (((i : Nat) : Int) + 1)) ∧ (((cuD xs n h gs (i + 1)) : List D) = (cuD xs n h gs (i + 1)))) (by kernel_rfl) ⟨rfl, rfl, rfl, rfl, rfl, rfl, rfl, (by first | rfl | omega | assumption | (simp; done) | (simp; omega)), rfl⟩ (show m - (i + 1) < m - i from (by first | omega | (show _ < _; simp; omega)))
  · refine AW.rgs [.no, .no, .no, .b false] [0, 1, 2, 7, 8, 12] [0] (P := (¬ (((i : Nat) : Int) < ((m : Nat) : Int)))) (l' := [(0, .e (.c (.d (D.sl (fcD xs) n)))), (1, iV h), (2, .e (.c (.d (D.sl (glD gs) m)))), (7, oV 0 0 i 2), (8, iV ↑i), (12, bV false)]) (g' := [(0, some (41, .ds (cuD xs n h gs i)))]) (nx' := 1) (by kernel_rfl) (by omega) ?_
    refine AW.cond_f (.tmp (Look.of rfl)) ?_
    refine AW.exit ?_
    refine AW.rgs [.no, .no] [6] [0] (P := True) (l' := [(6, oV 0 0 i 2)]) (g' := [(0, some (41, .ds (cuD xs n h gs i)))]) (nx' := 1) (by kernel_rfl) trivial ?_
    refine AW.ret ?_
    obtain rfl : m = i := by omega
    exact EndP.of (.inr rfl) [] (P := ((0 : Nat) = 0) ∧ ((m : Nat) = m) ∧ (((cuD xs n h gs m) : List D) = (cuD xs n h gs m))) (by kernel_rfl) ⟨rfl, rfl, rfl⟩

set_option maxHeartbeats 4000000 in
set_option maxRecDepth 100000 in
theorem Y_In (xs : List (List Int)) (n : Nat) (h : Int) (gs : List (List Int)) (m : Nat) (hb2 : m ≤ 1000000) : Fun 13 [.c (.d (D.sl (cuD xs n h gs m) m))] (toG []) 0 (iV (((inN xs n h gs m) : Nat) : Int)) (toG []) 0 := by
  refine Fun.mk (n := 18) Try.func13 rfl rfl (Nat.le_of_ble_eq_true rfl) ?_
  intro cx hcx
  refine AW.rgs [.no] [0] [] (P := True) (l' := [(0, .e (.c (.d (D.sl (cuD xs n h gs m) m))))]) (g' := []) (nx' := 0) (by kernel_rfl) trivial ?_
  refine AW.rgs [.no] [0, 3] [] (P := True) (l' := [(0, .e (.c (.d (D.sl (cuD xs n h gs m) m)))), (3, iV 0)]) (g' := []) (nx' := 0) (by kernel_rfl) trivial ?_
  refine AW.seq ?_
  refine AW.rgs [.no, .no, .no] [3, 6, 7, 8] [] (P := True) (l' := [(3, iV 0), (6, .e (.c (.d (D.sl (cuD xs n h gs m) m)))), (7, iV ↑m), (8, iV 0)]) (g' := []) (nx' := 0) (by kernel_rfl) trivial ?_
  refine AW.block ?_
  refine AW.loopE 0 hcx (fun (x : {x : Nat // match x with | i => (i ≤ m)}) => match x with | ⟨i, _⟩ => (⟨[(3, iV (((inN xs n h gs i) : Nat) : Int)), (6, .e (.c (.d (D.sl (cuD xs n h gs m) m)))), (7, iV ((m : Nat) : Int)), (8, iV ((i : Nat) : Int))], [], 0⟩ : ES)) (fun (x : {x : Nat // match x with | i => (i ≤ m)}) => match x with | ⟨i, _⟩ => m - i) ⟨(0 : Nat), (show ((0 : Nat) ≤ m) from (by first | omega | assumption | simp))⟩ [] (P := (((((inN xs n h gs 0) : Nat) : Int) : Int) = 0) ∧ (((cuD xs n h gs m) : List D) = (cuD xs n h gs m)) ∧ ((m : Nat) = m) ∧ ((((m : Nat) : Int) : Int) = ((m : Nat) : Int)) ∧ ((0 : Int) = 0)) (by kernel_rfl) ⟨(by first | rfl | omega | assumption | (simp; done) | (simp; omega)), rfl, rfl, rfl, rfl⟩ ?_
  rintro ⟨i, hinv0⟩
  have hi : (i ≤ m) := hinv0
  refine AW.es (l := [(3, iV (((inN xs n h gs i) : Nat) : Int)), (6, .e (.c (.d (D.sl (cuD xs n h gs m) m)))), (7, iV ((m : Nat) : Int)), (8, iV ((i : Nat) : Int))]) (g := []) (nx := 0) rfl rfl rfl ?_
  have hnl : inN xs n h gs i ≤ i := inN_le _ _ _ _ _
  by_cases hx1 : (((i : Nat) : Int) < ((m : Nat) : Int))
  · refine AW.rgs [.b true] [3, 6, 7, 8, 9] [] (P := ((((i : Nat) : Int) < ((m : Nat) : Int)))) (l' := [(3, iV (((inN xs n h gs i) : Nat) : Int)), (6, .e (.c (.d (D.sl (cuD xs n h gs m) m)))), (7, iV ↑m), (8, iV ↑i), (9, bV true)]) (g' := []) (nx' := 0) (by kernel_rfl) (by omega) ?_
    refine AW.seq ?_
    refine AW.cond_t (.tmp (Look.of rfl)) ?_
    refine AW.skip ?_
    refine AW.seq ?_
    refine AW.block ?_
    refine AW.rgs [.n i, .ds [iD (exT xs h (gq gs i 0) (gq gs i 1) (gq gs i 2) (gq gs i 3) (gq gs i 4) (gq gs i 5) n), D.lit (.bool (decide (exT xs h (gq gs i 0) (gq gs i 1) (gq gs i 2) (gq gs i 3) (gq gs i 4) (gq gs i 5) n < 0)))], .no, .no] [3, 5, 6, 7, 8] [0] (P := ((((i : Nat) : Int) : Int) = ((i : Nat) : Int)) ∧ (i < m) ∧ (List.take 2 (List.drop (i * 2) (cuD xs n h gs m)) = [iD (exT xs h (gq gs i 0) (gq gs i 1) (gq gs i 2) (gq gs i 3) (gq gs i 4) (gq gs i 5) n), D.lit (.bool (decide (exT xs h (gq gs i 0) (gq gs i 1) (gq gs i 2) (gq gs i 3) (gq gs i 4) (gq gs i 5) n < 0)))]) ∧ (([iD (exT xs h (gq gs i 0) (gq gs i 1) (gq gs i 2) (gq gs i 3) (gq gs i 4) (gq gs i 5) n), D.lit (.bool (decide (exT xs h (gq gs i 0) (gq gs i 1) (gq gs i 2) (gq gs i 3) (gq gs i 4) (gq gs i 5) n < 0)))] : List D).length = 2)) (l' := [(3, iV (((inN xs n h gs i) : Nat) : Int)), (5, rV 0 0), (6, .e (.c (.d (D.sl (cuD xs n h gs m) m)))), (7, iV ↑m), (8, iV ↑i)]) (g' := [(0, some (41, .ds [iD (exT xs h (gq gs i 0) (gq gs i 1) (gq gs i 2) (gq gs i 3) (gq gs i 4) (gq gs i 5) n), D.lit (.bool (decide (exT xs h (gq gs i 0) (gq gs i 1) (gq gs i 2) (gq gs i 3) (gq gs i 4) (gq gs i 5) n < 0)))]))]) (nx' := 1) (by kernel_rfl) ⟨rfl, (by omega), (cu_at _ (by omega)), rfl⟩ ?_
    refine AW.rgs [.no, .no] [3, 6, 7, 8, 13] [] (P := True) (l' := [(3, iV (((inN xs n h gs i) : Nat) : Int)), (6, .e (.c (.d (D.sl (cuD xs n h gs m) m)))), (7, iV ↑m), (8, iV ↑i), (13, .e (.c (.d (D.lit (.bool (decide (exT xs h (gq gs i 0) (gq gs i 1) (gq gs i 2) (gq gs i 3) (gq gs i 4) (gq gs i 5) n < 0)))))))]) (g' := []) (nx' := 1) (by kernel_rfl) trivial ?_
    rcases Bool.eq_false_or_eq_true (decide (exT xs h (gq gs i 0) (gq gs i 1) (gq gs i 2) (gq gs i 3) (gq gs i 4) (gq gs i 5) n < 0)) with hx2 | hx2
    · have hx3 : ((exT xs h (gq gs i 0) (gq gs i 1) (gq gs i 2) (gq gs i 3) (gq gs i 4) (gq gs i 5) n) < 0) := of_decide_eq_true hx2
      rw [hx2]
      refine AW.cond_t (.tmp (Look.of rfl)) ?_
      have hx4 : inN xs n h gs (i + 1) = inN xs n h gs i + 1 := if_pos (by omega)
      refine AW.rg [.no, .w, .no] [3, 6, 7, 8] [] (P := ((-9223372036854775808) ≤ ((((inN xs n h gs i) : Nat) : Int) + 1) ∧ ((((inN xs n h gs i) : Nat) : Int) + 1) ≤ 9223372036854775807)) (l' := [(3, iV ((((inN xs n h gs i) : Nat) : Int) + 1)), (6, .e (.c (.d (D.sl (cuD xs n h gs m) m)))), (7, iV ↑m), (8, iV ↑i)]) (g' := []) (nx' := 1) (by kernel_rfl) ⟨by omega, by omega⟩ ?_
      refine AW.rg [.w, .no] [3, 6, 7, 8] [] (P := ((-9223372036854775808) ≤ (((i : Nat) : Int) + 1) ∧ (((i : Nat) : Int) + 1) ≤ 9223372036854775807)) (l' := [(3, iV ((((inN xs n h gs i) : Nat) : Int) + 1)), (6, .e (.c (.d (D.sl (cuD xs n h gs m) m)))), (7, iV ↑m), (8, iV (↑i + 1))]) (g' := []) (nx' := 1) (by kernel_rfl) ⟨by omega, by omega⟩ ?_
      exact Rd.of ⟨((i + 1) : Nat), (show ((i + 1) ≤ m) from (by first | omega | assumption | simp))⟩ [] (P := (((((inN xs n h gs (i + 1)) : Nat) : Int) : Int) = ((((inN xs n h gs i) : Nat) : Int) + 1)) ∧ (((cuD xs n h gs m) : List D) = (cuD xs n h gs m)) ∧ ((m : Nat) = m) ∧ ((((m : Nat) : Int) : Int) = ((m : Nat) : Int)) ∧ (((((i + 1) : Nat) : Int) : Int) = (((i : Nat) : Int) + 1))) (by kernel_rfl) ⟨(by first | rfl | omega | assumption | (simp; done) | (simp; omega)), rfl, rfl, rfl, (by first | rfl | omega | assumption | (simp; done) | (simp; omega))⟩ (show m - (i + 1) < m - i from (by first | omega | (show _ < _; simp; omega)))
    · have hx5 : ¬ ((exT xs h (gq gs i 0) (gq gs i 1) (gq gs i 2) (gq gs i 3) (gq gs i 4) (gq gs i 5) n) < 0) := of_decide_eq_false hx2
      rw [hx2]
      refine AW.cond_f (.tmp (Look.of rfl)) ?_
      refine AW.skip ?_
      have hx6 : inN xs n h gs (i + 1) = inN xs n h gs i := if_neg (by omega)
      refine AW.rg [.w, .no] [3, 6, 7, 8] [] (P := ((-9223372036854775808) ≤ (((i : Nat) : Int) + 1) ∧ (((i : Nat) : Int) + 1) ≤ 9223372036854775807)) (l' := [(3, iV (((inN xs n h gs i) : Nat) : Int)), (6, .e (.c (.d (D.sl (cuD xs n h gs m) m)))), (7, iV ↑m), (8, iV (↑i + 1))]) (g' := []) (nx' := 1) (by kernel_rfl) ⟨by omega, by omega⟩ ?_
      exact Rd.of ⟨((i + 1) : Nat), (show ((i + 1) ≤ m) from (by first | omega | assumption | simp))⟩ [] (P := (((((inN xs n h gs (i + 1)) : Nat) : Int) : Int) = (((inN xs n h gs i) : Nat) : Int)) ∧ (((cuD xs n h gs m) : List D) = (cuD xs n h gs m)) ∧ ((m : Nat) = m) ∧ ((((m : Nat) : Int) : Int) = ((m : Nat) : Int)) ∧ (((((i + 1) : Nat) : Int) : Int) = (((i : Nat) : Int) + 1))) (by kernel_rfl) ⟨(by first | rfl | omega | assumption | (simp; done) | (simp; omega)), rfl, rfl, rfl, (by first | rfl | omega | assumption | (simp; done) | (simp; omega))⟩ (show m - (i + 1) < m - i from (by first | omega | (show _ < _; simp; omega)))
  · refine AW.rgs [.b false] [3, 6, 7, 8, 9] [] (P := (¬ (((i : Nat) : Int) < ((m : Nat) : Int)))) (l' := [(3, iV (((inN xs n h gs i) : Nat) : Int)), (6, .e (.c (.d (D.sl (cuD xs n h gs m) m)))), (7, iV ↑m), (8, iV ↑i), (9, bV false)]) (g' := []) (nx' := 0) (by kernel_rfl) (by omega) ?_
    refine AW.seq ?_
    refine AW.cond_f (.tmp (Look.of rfl)) ?_
    refine AW.exit ?_
    refine AW.rgs [.no, .no] [2] [] (P := True) (l' := [(2, iV (((inN xs n h gs i) : Nat) : Int))]) (g' := []) (nx' := 0) (by kernel_rfl) trivial ?_
    refine AW.ret ?_
    obtain rfl : m = i := by omega
    exact EndP.of (.inr rfl) [] (P := (((((inN xs n h gs m) : Nat) : Int) : Int) = (((inN xs n h gs m) : Nat) : Int))) (by kernel_rfl) rfl

set_option maxHeartbeats 4000000 in
set_option maxRecDepth 100000 in
theorem Y_rIn (xs : List (List Int)) (n : Nat) (h : Int) (gs : List (List Int)) (m : Nat) (hb2 : m ≤ 1000000) : Fun 14 [.c (.d (D.sl (cuD xs n h gs m) m))] (toG []) 0 (iV (((inN xs n h gs m) : Nat) : Int)) (toG []) 0 := by
  refine Fun.mk (n := 19) Try.func14 rfl rfl (Nat.le_of_ble_eq_true rfl) ?_
  intro cx hcx
  refine AW.rgs [.no] [0] [] (P := True) (l' := [(0, .e (.c (.d (D.sl (cuD xs n h gs m) m))))]) (g' := []) (nx' := 0) (by kernel_rfl) trivial ?_
  refine AW.rgs [.no] [0, 3] [] (P := True) (l' := [(0, .e (.c (.d (D.sl (cuD xs n h gs m) m)))), (3, iV 0)]) (g' := []) (nx' := 0) (by kernel_rfl) trivial ?_
  refine AW.seq ?_
  refine AW.rgs [.no] [0, 3, 4] [] (P := True) (l' := [(0, .e (.c (.d (D.sl (cuD xs n h gs m) m)))), (3, iV 0), (4, iV 0)]) (g' := []) (nx' := 0) (by kernel_rfl) trivial ?_
  refine AW.block ?_
  refine AW.loopE 0 hcx (fun (x : {x : Nat // match x with | i => (i ≤ m)}) => match x with | ⟨i, _⟩ => (⟨[(0, .e (.c (.d (D.sl (cuD xs n h gs m) m)))), (3, iV (((inN xs n h gs i) : Nat) : Int)), (4, iV ((i : Nat) : Int))], [], 0⟩ : ES)) (fun (x : {x : Nat // match x with | i => (i ≤ m)}) => match x with | ⟨i, _⟩ => m - i) ⟨(0 : Nat), (show ((0 : Nat) ≤ m) from (by first | omega | assumption | simp))⟩ [] (P := (((cuD xs n h gs m) : List D) = (cuD xs n h gs m)) ∧ ((m : Nat) = m) ∧ (((((inN xs n h gs 0) : Nat) : Int) : Int) = 0) ∧ ((0 : Int) = 0)) (by kernel_rfl) ⟨rfl, rfl, (by first | rfl | omega | assumption | (simp; done) | (simp; omega)), rfl⟩ ?_
  rintro ⟨i, hinv0⟩
  have hi : (i ≤ m) := hinv0
  refine AW.es (l := [(0, .e (.c (.d (D.sl (cuD xs n h gs m) m)))), (3, iV (((inN xs n h gs i) : Nat) : Int)), (4, iV ((i : Nat) : Int))]) (g := []) (nx := 0) rfl rfl rfl ?_
  have hnl : inN xs n h gs i ≤ i := inN_le _ _ _ _ _
  refine AW.seq ?_
  by_cases hx1 : (((i : Nat) : Int) < ((m : Nat) : Int))
  · refine AW.rgs [.no, .no, .no, .b true] [0, 3, 4, 8] [] (P := ((((i : Nat) : Int) < ((m : Nat) : Int)))) (l' := [(0, .e (.c (.d (D.sl (cuD xs n h gs m) m)))), (3, iV (((inN xs n h gs i) : Nat) : Int)), (4, iV ↑i), (8, bV true)]) (g' := []) (nx' := 0) (by kernel_rfl) (by omega) ?_
    refine AW.cond_t (.tmp (Look.of rfl)) ?_
    refine AW.skip ?_
    refine AW.seq ?_
    refine AW.block ?_
    refine AW.rgs [.no, .no, .n i, .no, .d (D.lit (.bool (decide (exT xs h (gq gs i 0) (gq gs i 1) (gq gs i 2) (gq gs i 3) (gq gs i 4) (gq gs i 5) n < 0))))] [0, 3, 4, 15] [] (P := ((((i : Nat) : Int) : Int) = ((i : Nat) : Int)) ∧ (i < m) ∧ ((List.drop 1 (List.drop (i * 2) (cuD xs n h gs m)))[0]? = some (D.lit (.bool (decide (exT xs h (gq gs i 0) (gq gs i 1) (gq gs i 2) (gq gs i 3) (gq gs i 4) (gq gs i 5) n < 0)))))) (l' := [(0, .e (.c (.d (D.sl (cuD xs n h gs m) m)))), (3, iV (((inN xs n h gs i) : Nat) : Int)), (4, iV ↑i), (15, .e (.c (.d (D.lit (.bool (decide (exT xs h (gq gs i 0) (gq gs i 1) (gq gs i 2) (gq gs i 3) (gq gs i 4) (gq gs i 5) n < 0)))))))]) (g' := []) (nx' := 0) (by kernel_rfl) ⟨rfl, (by omega), (by first | (rw [List.drop_drop]; exact (cu_b (by omega))) | (rw [List.drop_drop, Nat.add_comm]; exact (cu_b (by omega))))⟩ ?_
    rcases Bool.eq_false_or_eq_true (decide (exT xs h (gq gs i 0) (gq gs i 1) (gq gs i 2) (gq gs i 3) (gq gs i 4) (gq gs i 5) n < 0)) with hx2 | hx2
    · have hx3 : ((exT xs h (gq gs i 0) (gq gs i 1) (gq gs i 2) (gq gs i 3) (gq gs i 4) (gq gs i 5) n) < 0) := of_decide_eq_true hx2
      rw [hx2]
      refine AW.cond_t (.tmp (Look.of rfl)) ?_
      have hx4 : inN xs n h gs (i + 1) = inN xs n h gs i + 1 := if_pos (by omega)
      refine AW.rg [.no, .w, .no] [0, 3, 4] [] (P := ((-9223372036854775808) ≤ ((((inN xs n h gs i) : Nat) : Int) + 1) ∧ ((((inN xs n h gs i) : Nat) : Int) + 1) ≤ 9223372036854775807)) (l' := [(0, .e (.c (.d (D.sl (cuD xs n h gs m) m)))), (3, iV ((((inN xs n h gs i) : Nat) : Int) + 1)), (4, iV ↑i)]) (g' := []) (nx' := 0) (by kernel_rfl) ⟨by omega, by omega⟩ ?_
      refine AW.rg [.no, .w, .no] [0, 3, 4] [] (P := ((-9223372036854775808) ≤ (((i : Nat) : Int) + 1) ∧ (((i : Nat) : Int) + 1) ≤ 9223372036854775807)) (l' := [(0, .e (.c (.d (D.sl (cuD xs n h gs m) m)))), (3, iV ((((inN xs n h gs i) : Nat) : Int) + 1)), (4, iV (↑i + 1))]) (g' := []) (nx' := 0) (by kernel_rfl) ⟨by omega, by omega⟩ ?_
      exact Rd.of ⟨((i + 1) : Nat), (show ((i + 1) ≤ m) from (by first | omega | assumption | simp))⟩ [] (P := (((cuD xs n h gs m) : List D) = (cuD xs n h gs m)) ∧ ((m : Nat) = m) ∧ (((((inN xs n h gs (i + 1)) : Nat) : Int) : Int) = ((((inN xs n h gs i) : Nat) : Int) + 1)) ∧ (((((i + 1) : Nat) : Int) : Int) = (((i : Nat) : Int) + 1))) (by kernel_rfl) ⟨rfl, rfl, (by first | rfl | omega | assumption | (simp; done) | (simp; omega)), (by first | rfl | omega | assumption | (simp; done) | (simp; omega))⟩ (show m - (i + 1) < m - i from (by first | omega | (show _ < _; simp; omega)))
    · have hx5 : ¬ ((exT xs h (gq gs i 0) (gq gs i 1) (gq gs i 2) (gq gs i 3) (gq gs i 4) (gq gs i 5) n) < 0) := of_decide_eq_false hx2
      rw [hx2]
      refine AW.cond_f (.tmp (Look.of rfl)) ?_
      refine AW.skip ?_
      have hx6 : inN xs n h gs (i + 1) = inN xs n h gs i := if_neg (by omega)
      refine AW.rg [.no, .w, .no] [0, 3, 4] [] (P := ((-9223372036854775808) ≤ (((i : Nat) : Int) + 1) ∧ (((i : Nat) : Int) + 1) ≤ 9223372036854775807)) (l' := [(0, .e (.c (.d (D.sl (cuD xs n h gs m) m)))), (3, iV (((inN xs n h gs i) : Nat) : Int)), (4, iV (↑i + 1))]) (g' := []) (nx' := 0) (by kernel_rfl) ⟨by omega, by omega⟩ ?_
      exact Rd.of ⟨((i + 1) : Nat), (show ((i + 1) ≤ m) from (by first | omega | assumption | simp))⟩ [] (P := (((cuD xs n h gs m) : List D) = (cuD xs n h gs m)) ∧ ((m : Nat) = m) ∧ (((((inN xs n h gs (i + 1)) : Nat) : Int) : Int) = (((inN xs n h gs i) : Nat) : Int)) ∧ (((((i + 1) : Nat) : Int) : Int) = (((i : Nat) : Int) + 1))) (by kernel_rfl) ⟨rfl, rfl, (by first | rfl | omega | assumption | (simp; done) | (simp; omega)), (by first | rfl | omega | assumption | (simp; done) | (simp; omega))⟩ (show m - (i + 1) < m - i from (by first | omega | (show _ < _; simp; omega)))
  · refine AW.rgs [.no, .no, .no, .b false] [0, 3, 4, 8] [] (P := (¬ (((i : Nat) : Int) < ((m : Nat) : Int)))) (l' := [(0, .e (.c (.d (D.sl (cuD xs n h gs m) m)))), (3, iV (((inN xs n h gs i) : Nat) : Int)), (4, iV ↑i), (8, bV false)]) (g' := []) (nx' := 0) (by kernel_rfl) (by omega) ?_
    refine AW.cond_f (.tmp (Look.of rfl)) ?_
    refine AW.exit ?_
    refine AW.rgs [.no, .no] [2] [] (P := True) (l' := [(2, iV (((inN xs n h gs i) : Nat) : Int))]) (g' := []) (nx' := 0) (by kernel_rfl) trivial ?_
    refine AW.ret ?_
    obtain rfl : m = i := by omega
    exact EndP.of (.inr rfl) [] (P := (((((inN xs n h gs m) : Nat) : Int) : Int) = (((inN xs n h gs m) : Nat) : Int))) (by kernel_rfl) rfl

set_option maxHeartbeats 4000000 in
set_option maxRecDepth 100000 in
theorem Y_same (xs : List (List Int)) (n : Nat) (h : Int) (gs : List (List Int)) (m : Nat) (hb2 : m ≤ 1000000) : Fun 12 [.c (.d (D.sl (cuD xs n h gs m) m)), .c (.d (D.sl (cuD xs n h gs m) m))] (toG []) 0 (bV true) (toG []) 0 := by
  refine Fun.mk (n := 26) Try.func12 rfl rfl (Nat.le_of_ble_eq_true rfl) ?_
  intro cx hcx
  refine AW.rgs [.no] [0, 1] [] (P := True) (l' := [(0, .e (.c (.d (D.sl (cuD xs n h gs m) m)))), (1, .e (.c (.d (D.sl (cuD xs n h gs m) m))))]) (g' := []) (nx' := 0) (by kernel_rfl) trivial ?_
  refine AW.seq ?_
  refine AW.rgs [.no, .no, .no, .no, .b false] [0, 1, 10] [] (P := (¬ (((m : Nat) : Int) ≠ ((m : Nat) : Int)))) (l' := [(0, .e (.c (.d (D.sl (cuD xs n h gs m) m)))), (1, .e (.c (.d (D.sl (cuD xs n h gs m) m)))), (10, bV false)]) (g' := []) (nx' := 0) (by kernel_rfl) (by omega) ?_
  refine AW.cond_f (.tmp (Look.of rfl)) ?_
  refine AW.skip ?_
  refine AW.seq ?_
  refine AW.rgs [.no, .no, .no] [0, 1, 12, 13] [] (P := True) (l' := [(0, .e (.c (.d (D.sl (cuD xs n h gs m) m)))), (1, .e (.c (.d (D.sl (cuD xs n h gs m) m)))), (12, iV ↑m), (13, iV 0)]) (g' := []) (nx' := 0) (by kernel_rfl) trivial ?_
  refine AW.block ?_
  refine AW.loopE 0 hcx (fun (x : {x : Nat // match x with | i => (i ≤ m)}) => match x with | ⟨i, _⟩ => (⟨[(0, .e (.c (.d (D.sl (cuD xs n h gs m) m)))), (1, .e (.c (.d (D.sl (cuD xs n h gs m) m)))), (12, iV ((m : Nat) : Int)), (13, iV ((i : Nat) : Int))], [], 0⟩ : ES)) (fun (x : {x : Nat // match x with | i => (i ≤ m)}) => match x with | ⟨i, _⟩ => m - i) ⟨(0 : Nat), (show ((0 : Nat) ≤ m) from (by first | omega | assumption | simp))⟩ [] (P := (((cuD xs n h gs m) : List D) = (cuD xs n h gs m)) ∧ ((m : Nat) = m) ∧ (((cuD xs n h gs m) : List D) = (cuD xs n h gs m)) ∧ ((m : Nat) = m) ∧ ((((m : Nat) : Int) : Int) = ((m : Nat) : Int)) ∧ ((0 : Int) = 0)) (by kernel_rfl) ⟨rfl, rfl, rfl, rfl, rfl, rfl⟩ ?_
  rintro ⟨i, hinv0⟩
  have hi : (i ≤ m) := hinv0
  refine AW.es (l := [(0, .e (.c (.d (D.sl (cuD xs n h gs m) m)))), (1, .e (.c (.d (D.sl (cuD xs n h gs m) m)))), (12, iV ((m : Nat) : Int)), (13, iV ((i : Nat) : Int))]) (g := []) (nx := 0) rfl rfl rfl ?_
  by_cases hx1 : (((i : Nat) : Int) < ((m : Nat) : Int))
  · refine AW.rgs [.b true] [0, 1, 12, 13, 14] [] (P := ((((i : Nat) : Int) < ((m : Nat) : Int)))) (l' := [(0, .e (.c (.d (D.sl (cuD xs n h gs m) m)))), (1, .e (.c (.d (D.sl (cuD xs n h gs m) m)))), (12, iV ↑m), (13, iV ↑i), (14, bV true)]) (g' := []) (nx' := 0) (by kernel_rfl) (by omega) ?_
    refine AW.seq ?_
    refine AW.cond_t (.tmp (Look.of rfl)) ?_
    refine AW.skip ?_
    refine AW.seq ?_
    refine AW.block ?_
    refine AW.rgs [.no, .no] [0, 1, 5, 12, 13] [] (P := True) (l' := [(0, .e (.c (.d (D.sl (cuD xs n h gs m) m)))), (1, .e (.c (.d (D.sl (cuD xs n h gs m) m)))), (5, iV ↑i), (12, iV ↑m), (13, iV ↑i)]) (g' := []) (nx' := 0) (by kernel_rfl) trivial ?_
    refine AW.rgs [.no, .no, .n i, .ds [iD (exT xs h (gq gs i 0) (gq gs i 1) (gq gs i 2) (gq gs i 3) (gq gs i 4) (gq gs i 5) n), D.lit (.bool (decide (exT xs h (gq gs i 0) (gq gs i 1) (gq gs i 2) (gq gs i 3) (gq gs i 4) (gq gs i 5) n < 0)))], .no, .no, .n i, .ds [iD (exT xs h (gq gs i 0) (gq gs i 1) (gq gs i 2) (gq gs i 3) (gq gs i 4) (gq gs i 5) n), D.lit (.bool (decide (exT xs h (gq gs i 0) (gq gs i 1) (gq gs i 2) (gq gs i 3) (gq gs i 4) (gq gs i 5) n < 0)))], .b false] [0, 1, 12, 13, 24] [] (P := ((((i : Nat) : Int) : Int) = ((i : Nat) : Int)) ∧ (i < m) ∧ (List.take 2 (List.drop (i * 2) (cuD xs n h gs m)) = [iD (exT xs h (gq gs i 0) (gq gs i 1) (gq gs i 2) (gq gs i 3) (gq gs i 4) (gq gs i 5) n), D.lit (.bool (decide (exT xs h (gq gs i 0) (gq gs i 1) (gq gs i 2) (gq gs i 3) (gq gs i 4) (gq gs i 5) n < 0)))]) ∧ (([iD (exT xs h (gq gs i 0) (gq gs i 1) (gq gs i 2) (gq gs i 3) (gq gs i 4) (gq gs i 5) n), D.lit (.bool (decide (exT xs h (gq gs i 0) (gq gs i 1) (gq gs i 2) (gq gs i 3) (gq gs i 4) (gq gs i 5) n < 0)))] : List D).length = 2) ∧ ((((i : Nat) : Int) : Int) = ((i : Nat) : Int)) ∧ (i < m) ∧ (List.take 2 (List.drop (i * 2) (cuD xs n h gs m)) = [iD (exT xs h (gq gs i 0) (gq gs i 1) (gq gs i 2) (gq gs i 3) (gq gs i 4) (gq gs i 5) n), D.lit (.bool (decide (exT xs h (gq gs i 0) (gq gs i 1) (gq gs i 2) (gq gs i 3) (gq gs i 4) (gq gs i 5) n < 0)))]) ∧ (([iD (exT xs h (gq gs i 0) (gq gs i 1) (gq gs i 2) (gq gs i 3) (gq gs i 4) (gq gs i 5) n), D.lit (.bool (decide (exT xs h (gq gs i 0) (gq gs i 1) (gq gs i 2) (gq gs i 3) (gq gs i 4) (gq gs i 5) n < 0)))] : List D).length = 2) ∧ (((exT xs h (gq gs i 0) (gq gs i 1) (gq gs i 2) (gq gs i 3) (gq gs i 4) (gq gs i 5) n) = (exT xs h (gq gs i 0) (gq gs i 1) (gq gs i 2) (gq gs i 3) (gq gs i 4) (gq gs i 5) n)) ∧ ((decide (exT xs h (gq gs i 0) (gq gs i 1) (gq gs i 2) (gq gs i 3) (gq gs i 4) (gq gs i 5) n < 0)) = (decide (exT xs h (gq gs i 0) (gq gs i 1) (gq gs i 2) (gq gs i 3) (gq gs i 4) (gq gs i 5) n < 0))))) (l' := [(0, .e (.c (.d (D.sl (cuD xs n h gs m) m)))), (1, .e (.c (.d (D.sl (cuD xs n h gs m) m)))), (12, iV ↑m), (13, iV ↑i), (24, bV false)]) (g' := []) (nx' := 0) (by kernel_rfl) ⟨rfl, (by omega), (cu_at _ (by omega)), rfl, rfl, (by omega), (cu_at _ (by omega)), rfl, ⟨(by first | omega | rfl | simp_all), (by first | omega | rfl | simp_all)⟩⟩ ?_
    refine AW.cond_f (.tmp (Look.of rfl)) ?_
    refine AW.skip ?_
    refine AW.rg [.w, .no] [0, 1, 12, 13] [] (P := ((-9223372036854775808) ≤ (((i : Nat) : Int) + 1) ∧ (((i : Nat) : Int) + 1) ≤ 9223372036854775807)) (l' := [(0, .e (.c (.d (D.sl (cuD xs n h gs m) m)))), (1, .e (.c (.d (D.sl (cuD xs n h gs m) m)))), (12, iV ↑m), (13, iV (↑i + 1))]) (g' := []) (nx' := 0) (by kernel_rfl) ⟨by omega, by omega⟩ ?_
    exact Rd.of ⟨((i + 1) : Nat), (show ((i + 1) ≤ m) from (by first | omega | assumption | simp))⟩ [] (P := (((cuD xs n h gs m) : List D) = (cuD xs n h gs m)) ∧ ((m : Nat) = m) ∧ (((cuD xs n h gs m) : List D) = (cuD xs n h gs m)) ∧ ((m : Nat) = m) ∧ ((((m : Nat) : Int) : Int) = ((m : Nat) : Int)) ∧ (((((i + 1) : Nat) : Int) : Int) = (((i : Nat) : Int) + 1))) (by kernel_rfl) ⟨rfl, rfl, rfl, rfl, rfl, (by first | rfl | omega | assumption | (simp; done) | (simp; omega))⟩ (show m - (i + 1) < m - i from (by first | omega | (show _ < _; simp; omega)))
  · refine AW.rgs [.b false] [0, 1, 12, 13, 14] [] (P := (¬ (((i : Nat) : Int) < ((m : Nat) : Int)))) (l' := [(0, .e (.c (.d (D.sl (cuD xs n h gs m) m)))), (1, .e (.c (.d (D.sl (cuD xs n h gs m) m)))), (12, iV ↑m), (13, iV ↑i), (14, bV false)]) (g' := []) (nx' := 0) (by kernel_rfl) (by omega) ?_
    refine AW.seq ?_
    refine AW.cond_f (.tmp (Look.of rfl)) ?_
    refine AW.exit ?_
    refine AW.rgs [.no] [4] [] (P := True) (l' := [(4, bV true)]) (g' := []) (nx' := 0) (by kernel_rfl) trivial ?_
    refine AW.ret ?_
    exact EndP.of (.inr rfl) [] (P := (true = true)) (by kernel_rfl) rfl

end Go.Proofs.Ytjhebkiahpocfaa
