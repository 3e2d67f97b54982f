/- What is to blame, of the code. No statement is proved here. -/
import Derived.Test.YtcfmjpnffembpaaGreatZL10N
namespace Go.Proofs.YtcfmjpnffembpaaGreat
open Go.ChangeShapes Go.WideShapes Go.ChangeAt Go.RowKit
set_option linter.unusedVariables false
set_option linter.unusedSimpArgs false
/-! chapter 10: what is to blame -/
set_option maxHeartbeats 4000000
set_option maxRecDepth 100000
def adV (a b : Int) : Int := bitsI .and .i64 a b
def shV (k : Int) (r : List Int) (rn : Nat) (m : List (List Int)) (c : Nat) (s : List Int) (sn : Nat) (k2 : Int) (r2 : List Int) (rn2 : Nat) (m2 : List (List Int)) (s2 : List Int) (sn2 : Nat) : Int :=
 (if adV k k2 = 0 then 0 else 1) + (if isN (spS r rn) (spS r2 rn2) = 0 then 0 else 2) + (if List.length (cmS m m2 c) = 0 then 0 else 4) + (if isN (spS s sn) (spS s2 sn2) = 0 then 0 else 8)
def shA (k k2 : Int) : Int := if adV k k2 = 0 then 0 else 1
def oS (a : Int) (n : Nat) (b : Int) : Int := a + (if n = 0 then 0 else b)
theorem shA_c (k k2 : Int) : (adV k k2 = 0 ∧ shA k k2 = 0) ∨ (¬ adV k k2 = 0 ∧ shA k k2 = 1) := by
 unfold shA; split
 ·exact .inl ⟨by assumption, rfl⟩
 ·exact .inr ⟨by assumption, rfl⟩
theorem oS_c (a : Int) (n : Nat) (b : Int) : (n = 0 ∧ oS a n b = a) ∨ (1 ≤ n ∧ oS a n b = a + b) := by
 unfold oS; split
 ·exact .inl ⟨by assumption, by omega⟩
 ·exact .inr ⟨by omega, rfl⟩
theorem or_2 {a : Int} (h : 0 ≤ a ∧ a ≤ 1) : bitsI .or .i64 a 2 = a + 2 := by
 rcases (by omega : a = 0 ∨ a = 1) with rfl | rfl <;> decide
theorem or_4 {a : Int} (h : 0 ≤ a ∧ a ≤ 3) : bitsI .or .i64 a 4 = a + 4 := by
 rcases (by omega : a = 0 ∨ a = 1 ∨ a = 2 ∨ a = 3) with rfl | rfl | rfl | rfl <;> decide
theorem or_8 {a : Int} (h : 0 ≤ a ∧ a ≤ 7) : bitsI .or .i64 a 8 = a + 8 := by
 rcases (by omega : a = 0 ∨ a = 1 ∨ a = 2 ∨ a = 3 ∨ a = 4 ∨ a = 5 ∨ a = 6 ∨ a = 7) with rfl | rfl | rfl | rfl | rfl | rfl | rfl | rfl <;> decide
theorem shV_rng (k : Int) (r : List Int) (rn : Nat) (m : List (List Int)) (c : Nat) (s : List Int) (sn : Nat) (k2 : Int) (r2 : List Int) (rn2 : Nat) (m2 : List (List Int)) (s2 : List Int) (sn2 : Nat) : 0 ≤ shV k r rn m c s sn k2 r2 rn2 m2 s2 sn2 ∧ shV k r rn m c s sn k2 r2 rn2 m2 s2 sn2 ≤ 15 := by
 unfold shV; (repeat' split) <;> omega
def shE (xs ys : List Bx) (i j : Nat) : Int := shV (qbK xs i) (qbR xs i) (qbN xs i) (qbM xs i) (List.length (qbM xs i)) (qbS xs i) (qbT xs i) (qbK ys j) (qbR ys j) (qbN ys j) (qbM ys j) (qbS ys j) (qbT ys j)
def prS (xs ys : List Bx) : Nat → List Int
 | 0 => []
 | i + 1 => prS xs ys i ++ (List.range (List.length ys)).map (shE xs ys i)
def prJ (xs ys : List Bx) (i j : Nat) : List Int := prS xs ys i ++ (List.range j).map (shE xs ys i)
theorem prJ_0 {xs ys : List Bx} {i : Nat} {o : List Int} (h : prS xs ys i = o) : prJ xs ys i 0 = o := by
 unfold prJ; rw [h]; exact List.append_nil _
theorem prJ_s {xs ys : List Bx} {i j : Nat} {o : List Int} {x : Int} (h : prJ xs ys i j = o) (hx : x = shE xs ys i j) : prJ xs ys i (j + 1) = o ++ [x] := by
 subst h; subst hx
 unfold prJ; rw [List.range_succ, List.map_append, List.append_assoc]; rfl
theorem prJ_e {xs ys : List Bx} {i j : Nat} {o : List Int} (h : prJ xs ys i j = o) (hj : j = List.length ys) : prS xs ys (i + 1) = o := by
 subst hj; exact h
def ctB (l : List Int) (n : Nat) (v : Int) : Bool := decide (0 ≤ idxK l v n)
def stB (d s : Int) : Bool := decide (adV d s = s)
def mtK (l : List Int) (s : Int) : Nat → Int := fiK fun j => stB (List.getD l j 0) s
theorem mtK_m {l : List Int} {s : Int} {k : Nat} (h : mtK l s k = -1) (h2 : stB (List.getD l k 0) s = false) : mtK l s (k + 1) = -1 := fi_miss h h2
theorem mtK_h {l : List Int} {s : Int} {k : Nat} (h : mtK l s k = -1) (h2 : stB (List.getD l k 0) s = true) {n : Nat} (hn : k < n) : mtK l s n = (k : Int) := fi_hit h h2 n hn
def mtB (l : List Int) (n : Nat) (s : Int) : Bool := decide (0 ≤ mtK l s n)
def ocV (x : Int) : Int := x % 2 + x / 2 % 2 + x / 4 % 2 + x / 8 % 2
def blK (l : List Int) (n : Nat) : Nat → Int
 | 0 => 15
 | i + 1 => if 1 ≤ n ∧ mtB l n (14 - (i : Int)) = false ∧ ocV (14 - (i : Int)) ≤ ocV (blK l n i) then 14 - (i : Int) else blK l n i
theorem blK_rng (l : List Int) (n : Nat) : ∀ i, i ≤ 14 → 0 ≤ blK l n i ∧ blK l n i ≤ 15
 | 0, _ => ⟨(by decide : (0 : Int) ≤ 15), Int.le_refl 15⟩
 | i + 1, h => by
  have := blK_rng l n i (by omega)
  rw [blK]; split <;> omega
theorem bl_y {l : List Int} {n i : Nat} {y x : Int} (h : blK l n i = y) (h1 : 1 ≤ n) (h2 : mtB l n (14 - (i : Int)) = false) (h3 : ocV (14 - (i : Int)) ≤ ocV y) (hx : x = 14 - (i : Int)) : blK l n (i + 1) = x := by
 subst h; rw [hx]; exact if_pos ⟨h1, h2, h3⟩
theorem bl_0 {l : List Int} {n i : Nat} {y : Int} (h : blK l n i = y) (h1 : ¬ 1 ≤ n) : blK l n (i + 1) = y := by
 subst h; exact if_neg fun e => h1 e.1
theorem bl_m {l : List Int} {n i : Nat} {y : Int} (h : blK l n i = y) (h2 : mtB l n (14 - (i : Int)) = true) : blK l n (i + 1) = y := by
 subst h; exact if_neg fun e => by rw [h2] at e; cases e.2.1
theorem bl_o {l : List Int} {n i : Nat} {y : Int} (h : blK l n i = y) (h3 : ¬ ocV (14 - (i : Int)) ≤ ocV y) : blK l n (i + 1) = y := by
 subst h; exact if_neg fun e => h3 e.2.2
def blP (l : List Int) : Int := if ctB l (List.length l) 15 = true then 0 else blK l (List.length l) 14
def blV (a b : List Bx) : Int := blP (prS (bxL a) (bxL b) (List.length (bxL a)))
theorem bl_c {a b : List Bx} {o : List Int} {i n : Nat} (h : prS (bxL a) (bxL b) i = o) (hi : i = List.length (bxL a)) (hn : List.length o = n) (hc : ctB o n 15 = true) : blV a b = 0 := by
 subst hi; subst hn
 unfold blV; rw [h]; exact if_pos hc
theorem bl_e {a b : List Bx} {o : List Int} {i n : Nat} {y : Int} {z : Nat} (h : prS (bxL a) (bxL b) i = o) (hi : i = List.length (bxL a)) (hn : List.length o = n) (hc : ctB o n 15 = false) (hy : blK o n z = y) (hz : z = 14) : blV a b = y := by
 subst hi; subst hn; subst hz
 unfold blV; rw [h, ← hy]; exact if_neg (by rw [hc]; decide)
theorem blV_rng (a b : List Bx) : 0 ≤ blV a b ∧ blV a b ≤ 15 := by
 unfold blV blP; split
 ·decide
 ·exact blK_rng _ _ 14 (Nat.le_refl _)
theorem bxL_64 (a : List Bx) : List.length (bxL a) ≤ 64 := by
 unfold bxL; split
 ·rename_i h; exact (of_decide_eq_true h).1
 ·exact Nat.zero_le _
theorem c16 {x : Int} (h : 0 ≤ x ∧ x ≤ 15) {p : Int → Prop} (h0 : ∀ n : Nat, n < 16 → p (n : Int)) : p x := by
 have := h0 x.toNat (by omega)
 rw [show ((x.toNat : Nat) : Int) = x by omega] at this; exact this
def on1 (x : Int) : Int := x / 2 % 2 + 4 * (x / 8 % 2)
def on2 (x : Int) : Int := x % 2 + 4 * (x / 4 % 2)
def on3 (x : Int) : Int := x / 4 % 2 + x / 8 % 2
def on4 (x : Int) : Int := x % 2 + x / 2 % 2
theorem on_1 {x : Int} (h : 0 ≤ x ∧ x ≤ 15) : bitsI .and .u64 (x / 2) 6148914691236517205 = on1 x := c16 (p := fun x => bitsI .and .u64 (x / 2) 6148914691236517205 = on1 x) h (by decide)
theorem on_2 {x : Int} (h : 0 ≤ x ∧ x ≤ 15) : bitsI .and .u64 x 6148914691236517205 = on2 x := c16 (p := fun x => bitsI .and .u64 x 6148914691236517205 = on2 x) h (by decide)
theorem on_3 {x : Int} (h : 0 ≤ x ∧ x ≤ 15) : bitsI .and .u64 ((on1 x + on2 x) / 4) 3689348814741910323 = on3 x := c16 (p := fun x => bitsI .and .u64 ((on1 x + on2 x) / 4) 3689348814741910323 = on3 x) h (by decide)
theorem on_4 {x : Int} (h : 0 ≤ x ∧ x ≤ 15) : bitsI .and .u64 (on1 x + on2 x) 3689348814741910323 = on4 x := c16 (p := fun x => bitsI .and .u64 (on1 x + on2 x) 3689348814741910323 = on4 x) h (by decide)
theorem on_5 {x y : Int} (h : 0 ≤ x ∧ x ≤ 15) (hy : y = on3 x + on4 x) : bitsI .and .u64 y 1085102592571150095 = ocV x := by
 rw [hy]; exact c16 (p := fun x => bitsI .and .u64 (on3 x + on4 x) 1085102592571150095 = ocV x) h (by decide)
theorem on_6 {x y : Int} (h : 0 ≤ x ∧ x ≤ 15) (hy : y = ocV x) : bitsI .and .i64 y 127 = ocV x := by
 rw [hy]; exact c16 (p := fun x => bitsI .and .i64 (ocV x) 127 = ocV x) h (by decide)
theorem on_r {x : Int} (h : 0 ≤ x ∧ x ≤ 15) : (0 ≤ on1 x ∧ on1 x ≤ 5) ∧ (0 ≤ on2 x ∧ on2 x ≤ 5) ∧ (0 ≤ on3 x ∧ on3 x ≤ 2) ∧ (0 ≤ on4 x ∧ on4 x ≤ 2) ∧ 0 ≤ ocV x ∧ ocV x ≤ 4 := by
 unfold on1 on2 on3 on4 ocV; omega
theorem zl10q8 {p : Prop} (h : p := by first | omega | assumption | simp) : p := h
theorem zl10q3 {p : Prop} (h : p := by first | omega | (simp only [msD_len, bxD_len, List.length_append, List.length_cons, List.length_nil, List.length_take, List.length_drop] <;> omega)) : p := h
theorem zl10q2 {p : Prop} (h : p := by first | omega | with_reducible assumption | (simp only [msD_len, bxD_len, List.length_append, List.length_cons, List.length_nil, List.length_take, List.length_drop, List.length_replicate, List.length_set] <;> omega) | rfl | assumption) : p := h
theorem zl10q1 {p : Prop} (h : p := by first | omega | (simp only [msD_len, bxD_len, dI_len, List.length_append, List.length_cons, List.length_nil, List.length_take, List.length_drop, List.length_replicate, List.length_set, List.length_map, List.length_reverse, Nat.mul_one] <;> omega) | rfl) : p := h
theorem zl10q4 {p : Prop} (h : p := by first | omega | (simp only [msD_len, bxD_len, List.length_append, List.length_cons, List.length_nil] <;> omega)) : p := h
theorem zl10q6 {p : Prop} (h : p := by first | rfl | omega | assumption | (simp; done) | (simp; omega)) : p := h
theorem zl10q7 {p : Prop} (h : p := by first | omega | (show _ < _; simp; omega)) : p := h
theorem zl10q0 {p : Prop} (h : p := by rw [List.drop_zero, Nat.mul_one, List.take_of_length_le (by first | omega | (simp only [msD_len, bxD_len, dI_len, List.length_append, List.length_cons, List.length_nil, List.length_take, List.length_drop, List.length_replicate, List.length_set, List.length_map, List.length_reverse, Nat.mul_one] <;> omega))]) : p := h
theorem Q_cm (a b : List (List Int)) (n m : Nat) (hn : List.length a = n) (hm : List.length b = m) (h1 : n ≤ 1000000) (h2 : m ≤ 1000000) (hW : MsW a) (hV : MsW b) : Fun 86 [.c (.d (D.sl (msD a) n)), .c (.d (D.sl (msD b) m))] (toG []) 0 (.e (.c (.d (D.sl (msD (cmS a b n)) (List.length (cmS a b n)))))) (toG []) 0 := by
 refine Fun.mk (n := 24) Tryz.func86 rfl rfl (Nat.le_of_ble_eq_true rfl) ?_
 intro cx hcx
 refine y9r [.no] True [(0, .e (.c (.d (D.sl (msD a) n)))), (1, .e (.c (.d (D.sl (msD b) m))))] [] 0 trivial ?_
 refine y9s [.no] True [(0, .e (.c (.d (D.sl (msD a) n)))), (1, .e (.c (.d (D.sl (msD b) m)))), (5, nV)] trivial ?_
 refine AW.seq ?_
 refine y9s [.no, .no, .no] True [(1, .e (.c (.d (D.sl (msD b) m)))), (5, nV), (8, .e (.c (.d (D.sl (msD a) n)))), (9, uV n), (10, iV 0)] trivial ?_
 refine AW.block ?_
 refine AW.adoptS 5 1 23 rfl ?_
 refine AW.loopE 0 hcx (fun (x : {x : Nat × Nat × List (List Int) // match x with | (i, q, o) => (i ≤ n ∧ q ≤ i) ∧ (cmS a b i = o) ∧ (List.length o = q) ∧ (MsW o)}) => match x with | ⟨(i, q, o), _⟩ => (⟨[(1, .e (.c (.d (D.sl (msD b) m)))), (5, oV 1 0 q 1), (8, .e (.c (.d (D.sl (msD a) n)))), (9, uV n), (10, uV i)], [(1, some (23, .ds (msD o)))], 2⟩ : ES)) (fun x => match x with | ⟨(i, q, o), _⟩ => n - i) ⟨((0 : Nat), (0 : Nat), (([] : List (List Int)) : List (List Int))), ⟨zl10q8, rfl, rfl, MsW.nil⟩⟩ [(1, 0)] (P := (q9d (msD b)) ∧ (q9n m) ∧ (q9n 0) ∧ (q9n 0) ∧ (q9d (msD a)) ∧ (q9n n) ∧ (q9i (n : Int)) ∧ (q9i 0) ∧ (((msD ([] : List (List Int))) : List D) = ([] : List D))) zk ⟨rfl, rfl, rfl, rfl, rfl, rfl, rfl, rfl, (by first | rfl | with_reducible assumption)⟩ ?_
 rintro ⟨⟨i, q, o⟩, hinv0⟩
 obtain ⟨hi, ho, hq, hO⟩ : (i ≤ n ∧ q ≤ i) ∧ (cmS a b i = o) ∧ (List.length o = q) ∧ (MsW o) := hinv0
 refine AW.es (l := [(1, .e (.c (.d (D.sl (msD b) m)))), (5, oV 1 0 q 1), (8, .e (.c (.d (D.sl (msD a) n)))), (9, uV n), (10, uV i)]) (g := [(1, some (23, .ds (msD o)))]) (nx := 2) rfl rfl rfl ?_
 by_cases hx1 : (((i : Nat) : Int) < ((n : Nat) : Int))
 ·refine y9r [.b true] (((i : Int) < (n : Int))) [(1, .e (.c (.d (D.sl (msD b) m)))), (5, oV 1 0 q 1), (8, .e (.c (.d (D.sl (msD a) n)))), (9, uV n), (10, uV i), (11, bV true)] [(1, some (23, .ds (msD o)))] 2 zo ?_
  refine AW.seq ?_
  refine zts ?_
  refine AW.seq ?_
  refine AW.block ?_
  have hx2 : ((List.length (List.getD a i ([] : List Int))) ≤ 1000000) := MsW.at (show MsW a by with_reducible assumption) _
  refine y9s [.n i, .d (dl (List.getD a i ([] : List Int)) (List.length (List.getD a i ([] : List Int)))), .no] ((q9i (i : Int)) ∧ (i < n) ∧ ((List.drop i (msD a))[0]? = some (dl (List.getD a i ([] : List Int)) (List.length (List.getD a i ([] : List Int)))))) [(1, .e (.c (.d (D.sl (msD b) m)))), (5, oV 1 0 q 1), (7, sV .i64 (List.getD a i ([] : List Int)) (List.length (List.getD a i ([] : List Int)))), (8, .e (.c (.d (D.sl (msD a) n)))), (9, uV n), (10, uV i)] ⟨rfl, zo, (msD_at _ _ zl10q3)⟩ ?_
  rcases Bool.eq_false_or_eq_true (hmB b (List.getD a i ([] : List Int))) with hx3 | hx3
  ·refine y9s [.no, .no, .call [] (bV true) [] 0 [] none] (Fun 96 [.c (.d (D.sl (msD b) m)), .c (.d (dl (List.getD a i ([] : List Int)) (List.length (List.getD a i ([] : List Int)))))] (toG []) 0 (bV true) (toG []) 0) [(1, .e (.c (.d (D.sl (msD b) m)))), (5, oV 1 0 q 1), (7, sV .i64 (List.getD a i ([] : List Int)) (List.length (List.getD a i ([] : List Int)))), (8, .e (.c (.d (D.sl (msD a) n)))), (9, uV n), (10, uV i), (16, bV true)] (by have h0 := (M_has b m (List.getD a i ([] : List Int)) (List.length (List.getD a i ([] : List Int))) zo rfl zo zl10q2 (show MsW b by with_reducible assumption)); rw [hx3] at h0; exact h0) ?_
   refine zt ?_
   refine y9g [.no, .no, (.fz (.call [] (oV 0 0 (List.length (List.getD a i ([] : List Int))) 1) [(0, some (3, .ds (dI .i64 (List.getD a i ([] : List Int)))))] 1 [] none)), .no, .ap none (q + 1) (msD (o ++ ([(List.getD a i ([] : List Int))] : List (List Int)))), .no] ((_) ∧ (((dI .i64 (List.getD a i ([] : List Int))) : List D).length = (List.length (List.getD a i ([] : List Int))) * 1) ∧ ([dl (List.getD a i ([] : List Int)) (List.length (List.getD a i ([] : List Int)))].length = 1 * 1) ∧ (((msD o) : List D).length = q * 1) ∧ ((q + 1) * 24 ≤ 140737488355328) ∧ (q + 1 = (q + 1)) ∧ (((msD o) : List D) ++ [dl (List.getD a i ([] : List Int)) (List.length (List.getD a i ([] : List Int)))] = (msD (o ++ ([(List.getD a i ([] : List Int))] : List (List Int)))))) [(1, .e (.c (.d (D.sl (msD b) m)))), (5, oV 4 0 (q + 1) 1), (8, .e (.c (.d (D.sl (msD a) n)))), (9, uV n), (10, uV i)] [(4, some (23, .ds (msD (o ++ ([(List.getD a i ([] : List Int))] : List (List Int))))))] 5 ⟨(C_Clone_i64 (List.getD a i ([] : List Int)) (List.length (List.getD a i ([] : List Int))) rfl zl10q2), zl10q1, zl10q1, zl10q1, zo, zo, (msD_cat o (List.getD a i ([] : List Int)) (List.length (List.getD a i ([] : List Int))) (by first | rfl | omega))⟩ ?_
   refine y9h [.w, .no] ((-9223372036854775808) ≤ ((i : Int) + 1) ∧ ((i : Int) + 1) ≤ 9223372036854775807) [(1, .e (.c (.d (D.sl (msD b) m)))), (5, oV 4 0 (q + 1) 1), (8, .e (.c (.d (D.sl (msD a) n)))), (9, uV n), (10, iV (↑i + 1))] ⟨by omega, by omega⟩ ?_
   exact Rd.of ⟨(((i + 1) : Nat), ((q + 1) : Nat), ((o ++ ([(List.getD a i ([] : List Int))] : List (List Int))) : List (List Int))), ⟨zl10q8, (by first | exact cmS_y ho (by assumption) | exact cmS_n ho (by assumption)), zl10q4, (by first | assumption | exact MsW.snoc (by assumption) zo)⟩⟩ [(1, 4)] (P := (q9d (msD b)) ∧ (q9n m) ∧ (q9n 0) ∧ (q9n (q + 1)) ∧ (q9d (msD a)) ∧ (q9n n) ∧ (q9i (n : Int)) ∧ (((((i + 1) : Nat) : Int) : Int) = ((i : Int) + 1)) ∧ (q9d (msD (o ++ ([(List.getD a i ([] : List Int))] : List (List Int)))))) zk ⟨rfl, rfl, rfl, rfl, rfl, rfl, rfl, zl10q6, rfl⟩ (show n - (i + 1) < n - i from zl10q7)
  ·refine y9s [.no, .no, .call [] (bV false) [] 0 [] none] (Fun 96 [.c (.d (D.sl (msD b) m)), .c (.d (dl (List.getD a i ([] : List Int)) (List.length (List.getD a i ([] : List Int)))))] (toG []) 0 (bV false) (toG []) 0) [(1, .e (.c (.d (D.sl (msD b) m)))), (5, oV 1 0 q 1), (7, sV .i64 (List.getD a i ([] : List Int)) (List.length (List.getD a i ([] : List Int)))), (8, .e (.c (.d (D.sl (msD a) n)))), (9, uV n), (10, uV i), (16, bV false)] (by have h0 := (M_has b m (List.getD a i ([] : List Int)) (List.length (List.getD a i ([] : List Int))) zo rfl zo zl10q2 (show MsW b by with_reducible assumption)); rw [hx3] at h0; exact h0) ?_
   refine zfs ?_
   refine y9h [.w, .no] ((-9223372036854775808) ≤ ((i : Int) + 1) ∧ ((i : Int) + 1) ≤ 9223372036854775807) [(1, .e (.c (.d (D.sl (msD b) m)))), (5, oV 1 0 q 1), (8, .e (.c (.d (D.sl (msD a) n)))), (9, uV n), (10, iV (↑i + 1))] ⟨by omega, by omega⟩ ?_
   exact Rd.of ⟨(((i + 1) : Nat), (q : Nat), (o : List (List Int))), ⟨zl10q8, (by first | exact cmS_y ho (by assumption) | exact cmS_n ho (by assumption)), zl10q4, (by first | assumption | exact MsW.snoc (by assumption) zo)⟩⟩ [] (P := (q9d (msD b)) ∧ (q9n m) ∧ (q9n 0) ∧ (q9n q) ∧ (q9d (msD a)) ∧ (q9n n) ∧ (q9i (n : Int)) ∧ (((((i + 1) : Nat) : Int) : Int) = ((i : Int) + 1)) ∧ (q9d (msD o))) zk ⟨rfl, rfl, rfl, rfl, rfl, rfl, rfl, zl10q6, rfl⟩ (show n - (i + 1) < n - i from zl10q7)
 ·refine y9r [.b false] (¬ ((i : Int) < (n : Int))) [(1, .e (.c (.d (D.sl (msD b) m)))), (5, oV 1 0 q 1), (8, .e (.c (.d (D.sl (msD a) n)))), (9, uV n), (10, uV i), (11, bV false)] [(1, some (23, .ds (msD o)))] 2 zo ?_
  refine AW.seq ?_
  refine zf ?_
  refine AW.exit ?_
  refine y9r [.no, .no] True [(4, oV 1 0 q 1)] [(1, some (23, .ds (msD o)))] 2 trivial ?_
  refine AW.freeze 1 (l' := [(4, .e (.c (.d (D.sl (msD o) q))))]) (g' := []) rfl (FzS.cons rfl (.e (.c (@FzC.own 1 ((msD o) : List D) 0 q 1 true ((msD o) : List D) zl10q0 zl10q1))) FzS.nil) FzG.nil ?_
  have hz1 : cmS a b n = o := by have h9 := ho; rw [show i = n by omega] at h9; exact h9
  refine AW.ret ?_
  exact EndP.of (.inr rfl) [] (P := (((msD (cmS a b n)) : List D) = (msD o)) ∧ (((List.length (cmS a b n)) : Nat) = q)) zk ⟨(by first | rfl | (rw [hz1]; done) | (rw [hz1]; rfl)), (by first | rfl | (rw [hz1]; omega) | omega)⟩
abbrev t0Q3_0 (k : Int) (r : List Int) (rn : Nat) (m : List (List Int)) (c : Nat) (s : List Int) (sn : Nat) : BC := .ds [iD k, D.sl (dI .i64 r) rn, D.sl (msD m) c, D.sl (dI .i64 s) sn]
abbrev t0Q3_1 (k2 : Int) (r2 : List Int) (rn2 : Nat) (m2 : List (List Int)) (c2 : Nat) (s2 : List Int) (sn2 : Nat) : BC := .ds [iD k2, D.sl (dI .i64 r2) rn2, D.sl (msD m2) c2, D.sl (dI .i64 s2) sn2]
theorem Q_sh (k : Int) (r : List Int) (rn : Nat) (m : List (List Int)) (c : Nat) (s : List Int) (sn : Nat) (k2 : Int) (r2 : List Int) (rn2 : Nat) (m2 : List (List Int)) (c2 : Nat) (s2 : List Int) (sn2 : Nat) (hr : List.length r = rn * 2) (hs : List.length s = sn * 2) (hc : List.length m = c) (h1 : rn ≤ 1000000) (h2 : sn ≤ 1000000) (h3 : c ≤ 1000000) (hW : MsW m) (hr2 : List.length r2 = rn2 * 2) (hs2 : List.length s2 = sn2 * 2) (hc2 : List.length m2 = c2) (h12 : rn2 ≤ 1000000) (h22 : sn2 ≤ 1000000) (h32 : c2 ≤ 1000000) (hW2 : MsW m2) : Fun 73 [.agg [iC k, .d (D.sl (dI .i64 r) rn), .d (D.sl (msD m) c), .d (D.sl (dI .i64 s) sn)], .agg [iC k2, .d (D.sl (dI .i64 r2) rn2), .d (D.sl (msD m2) c2), .d (D.sl (dI .i64 s2) sn2)]] (toG []) 0 (iV (shV k r rn m c s sn k2 r2 rn2 m2 s2 sn2)) (toG []) 0 := by
 refine Fun.mk (n := 44) Tryz.func73 rfl rfl (Nat.le_of_ble_eq_true rfl) ?_
 intro cx hcx
 refine y9r [.no, .no, .no] True [(2, rV 0 0), (3, rV 1 0)] [(0, some (59, (t0Q3_0 k r rn m c s sn))), (1, some (59, (t0Q3_1 k2 r2 rn2 m2 c2 s2 sn2)))] 2 trivial ?_
 refine y9s [.no] True [(2, rV 0 0), (3, rV 1 0), (5, iV 0)] trivial ?_
 refine AW.seqJ hcx [(2, rV 0 0), (3, rV 1 0), (5, iV (shA k k2))] [(0, some (59, (t0Q3_0 k r rn m c s sn))), (1, some (59, (t0Q3_1 k2 r2 rn2 m2 c2 s2 sn2)))] 2 ?_ ?_
 ·by_cases hx2 : ((adV k k2) ≠ 0)
  ·have hx3 : (adV k k2 = 0 ∧ shA k k2 = 0) ∨ (¬ adV k k2 = 0 ∧ shA k k2 = 1) := shA_c _ _
   refine y9r (nz9 4 [.i (adV k k2), .b true]) ((bitsI .and .i64 k k2 = (adV k k2)) ∧ (((adV k k2) ≠ 0))) [(2, rV 0 0), (3, rV 1 0), (5, iV 0), (11, bV true)] [(0, some (59, (t0Q3_0 k r rn m c s sn))), (1, some (59, (t0Q3_1 k2 r2 rn2 m2 c2 s2 sn2)))] 2 ⟨rfl, zo⟩ ?_
   refine zt ?_
   refine y9h [.no, .i 1, .no] (bitsI .or .i64 0 1 = 1) [(2, rV 0 0), (3, rV 1 0), (5, iV 1)] (by decide) ?_
   exact Rd.of () [] (P := (q9n 0) ∧ (q9n 0) ∧ (((shA k k2) : Int) = 1) ∧ (q9d [iD k, dl r rn, D.sl (msD m) c, dl s sn]) ∧ (q9d [iD k2, dl r2 rn2, D.sl (msD m2) c2, dl s2 sn2])) zk ⟨rfl, rfl, zl10q6, rfl, rfl⟩ True.intro
  ·have hx4 : (adV k k2 = 0 ∧ shA k k2 = 0) ∨ (¬ adV k k2 = 0 ∧ shA k k2 = 1) := shA_c _ _
   refine y9r (nz9 4 [.i (adV k k2), .b false]) ((bitsI .and .i64 k k2 = (adV k k2)) ∧ (¬ ((adV k k2) ≠ 0))) [(2, rV 0 0), (3, rV 1 0), (5, iV 0), (11, bV false)] [(0, some (59, (t0Q3_0 k r rn m c s sn))), (1, some (59, (t0Q3_1 k2 r2 rn2 m2 c2 s2 sn2)))] 2 ⟨rfl, zo⟩ ?_
   refine zfs ?_
   exact Rd.of () [] (P := (q9n 0) ∧ (q9n 0) ∧ (((shA k k2) : Int) = 0) ∧ (q9d [iD k, dl r rn, D.sl (msD m) c, dl s sn]) ∧ (q9d [iD k2, dl r2 rn2, D.sl (msD m2) c2, dl s2 sn2])) zk ⟨rfl, rfl, zl10q6, rfl, rfl⟩ True.intro
 ·refine AW.seqJ hcx [(2, rV 0 0), (3, rV 1 0), (5, iV (oS (shA k k2) (isN (spS r rn) (spS r2 rn2)) 2))] [(0, some (59, (t0Q3_0 k r rn m c s sn))), (1, some (59, (t0Q3_1 k2 r2 rn2 m2 c2 s2 sn2)))] 2 ?_ ?_
  ·by_cases hx9 : ((0 : Int) < (((isN (spS r rn) (spS r2 rn2)) : Nat) : Int))
   ·have hx10 : ((isN (spS r rn) (spS r2 rn2) : Nat) = 0 ∧ oS (shA k k2) (isN (spS r rn) (spS r2 rn2)) 2 = shA k k2) ∨ (1 ≤ isN (spS r rn) (spS r2 rn2) ∧ oS (shA k k2) (isN (spS r rn) (spS r2 rn2)) 2 = shA k k2 + 2) := oS_c _ _ _
    have hx11 : 0 ≤ shA k k2 ∧ shA k k2 ≤ 1 := (by have h9 := shA_c k k2; omega)
    have hx12 : ((List.length (isS (spS r rn) (spS r2 rn2))) = ((isN (spS r rn) (spS r2 rn2)) * 2)) := is_len _ _
    have hx13 : ((isN (spS r rn) (spS r2 rn2)) ≤ 64) := is_le _ _
    refine y9r (nz9 4 [.call [] (.e (.agg [.d (dl (isS (spS r rn) (spS r2 rn2)) (isN (spS r rn) (spS r2 rn2)))])) [] 0 [] none, .no, .no, .b true]) ((_) ∧ (((0 : Int) < (isN (spS r rn) (spS r2 rn2) : Int)))) [(2, rV 0 0), (3, rV 1 0), (5, iV (shA k k2)), (21, bV true)] [(0, some (59, (t0Q3_0 k r rn m c s sn))), (1, some (59, (t0Q3_1 k2 r2 rn2 m2 c2 s2 sn2)))] 2 ⟨(U_Inter r r2 rn rn2 zo zo zo zo), zo⟩ ?_
    refine zt ?_
    refine y9h [.no, .i ((shA k k2) + 2), .no] (bitsI .or .i64 (shA k k2) 2 = ((shA k k2) + 2)) [(2, rV 0 0), (3, rV 1 0), (5, iV ((shA k k2) + 2))] (or_2 zo) ?_
    exact Rd.of () [] (P := (q9n 0) ∧ (q9n 0) ∧ (((oS (shA k k2) (isN (spS r rn) (spS r2 rn2)) 2) : Int) = ((shA k k2) + 2)) ∧ (q9d [iD k, dl r rn, D.sl (msD m) c, dl s sn]) ∧ (q9d [iD k2, dl r2 rn2, D.sl (msD m2) c2, dl s2 sn2])) zk ⟨rfl, rfl, zl10q6, rfl, rfl⟩ True.intro
   ·have hx14 : ((isN (spS r rn) (spS r2 rn2) : Nat) = 0 ∧ oS (shA k k2) (isN (spS r rn) (spS r2 rn2)) 2 = shA k k2) ∨ (1 ≤ isN (spS r rn) (spS r2 rn2) ∧ oS (shA k k2) (isN (spS r rn) (spS r2 rn2)) 2 = shA k k2 + 2) := oS_c _ _ _
    have hx15 : 0 ≤ shA k k2 ∧ shA k k2 ≤ 1 := (by have h9 := shA_c k k2; omega)
    have hx16 : ((List.length (isS (spS r rn) (spS r2 rn2))) = ((isN (spS r rn) (spS r2 rn2)) * 2)) := is_len _ _
    have hx17 : ((isN (spS r rn) (spS r2 rn2)) ≤ 64) := is_le _ _
    refine y9r (nz9 4 [.call [] (.e (.agg [.d (dl (isS (spS r rn) (spS r2 rn2)) (isN (spS r rn) (spS r2 rn2)))])) [] 0 [] none, .no, .no, .b false]) ((_) ∧ (¬ ((0 : Int) < (isN (spS r rn) (spS r2 rn2) : Int)))) [(2, rV 0 0), (3, rV 1 0), (5, iV (shA k k2)), (21, bV false)] [(0, some (59, (t0Q3_0 k r rn m c s sn))), (1, some (59, (t0Q3_1 k2 r2 rn2 m2 c2 s2 sn2)))] 2 ⟨(U_Inter r r2 rn rn2 zo zo zo zo), zo⟩ ?_
    refine zfs ?_
    exact Rd.of () [] (P := (q9n 0) ∧ (q9n 0) ∧ (((oS (shA k k2) (isN (spS r rn) (spS r2 rn2)) 2) : Int) = (shA k k2)) ∧ (q9d [iD k, dl r rn, D.sl (msD m) c, dl s sn]) ∧ (q9d [iD k2, dl r2 rn2, D.sl (msD m2) c2, dl s2 sn2])) zk ⟨rfl, rfl, zl10q6, rfl, rfl⟩ True.intro
  ·refine AW.seqJ hcx [(2, rV 0 0), (3, rV 1 0), (5, iV (oS (oS (shA k k2) (isN (spS r rn) (spS r2 rn2)) 2) (List.length (cmS m m2 c)) 4))] [(0, some (59, (t0Q3_0 k r rn m c s sn))), (1, some (59, (t0Q3_1 k2 r2 rn2 m2 c2 s2 sn2)))] 2 ?_ ?_
   ·by_cases hx21 : ((0 : Int) < (((List.length (cmS m m2 c)) : Nat) : Int))
    ·have hx22 : ((List.length (cmS m m2 c) : Nat) = 0 ∧ oS (oS (shA k k2) (isN (spS r rn) (spS r2 rn2)) 2) (List.length (cmS m m2 c)) 4 = oS (shA k k2) (isN (spS r rn) (spS r2 rn2)) 2) ∨ (1 ≤ List.length (cmS m m2 c) ∧ oS (oS (shA k k2) (isN (spS r rn) (spS r2 rn2)) 2) (List.length (cmS m m2 c)) 4 = oS (shA k k2) (isN (spS r rn) (spS r2 rn2)) 2 + 4) := oS_c _ _ _
     have hx23 : 0 ≤ oS (shA k k2) (isN (spS r rn) (spS r2 rn2)) 2 ∧ oS (shA k k2) (isN (spS r rn) (spS r2 rn2)) 2 ≤ 3 := (by have h9 := shA_c k k2; have h8 := oS_c (shA k k2) (isN (spS r rn) (spS r2 rn2)) 2; omega)
     have hx24 : ((List.length (cmS m m2 c)) ≤ c) := cmS_le m m2 c
     refine y9r (nz9 4 [.call [] (.e (.c (.d (D.sl (msD (cmS m m2 c)) (List.length (cmS m m2 c)))))) [] 0 [] none, .no, .b true]) ((_) ∧ (((0 : Int) < (List.length (cmS m m2 c) : Int)))) [(2, rV 0 0), (3, rV 1 0), (5, iV (oS (shA k k2) (isN (spS r rn) (spS r2 rn2)) 2)), (30, bV true)] [(0, some (59, (t0Q3_0 k r rn m c s sn))), (1, some (59, (t0Q3_1 k2 r2 rn2 m2 c2 s2 sn2)))] 2 ⟨(Q_cm m m2 c c2 zo zo zo zo (show MsW m by with_reducible assumption) (show MsW m2 by with_reducible assumption)), zo⟩ ?_
     refine zt ?_
     refine y9h [.no, .i ((oS (shA k k2) (isN (spS r rn) (spS r2 rn2)) 2) + 4), .no] (bitsI .or .i64 (oS (shA k k2) (isN (spS r rn) (spS r2 rn2)) 2) 4 = ((oS (shA k k2) (isN (spS r rn) (spS r2 rn2)) 2) + 4)) [(2, rV 0 0), (3, rV 1 0), (5, iV ((oS (shA k k2) (isN (spS r rn) (spS r2 rn2)) 2) + 4))] (or_4 zo) ?_
     exact Rd.of () [] (P := (q9n 0) ∧ (q9n 0) ∧ (((oS (oS (shA k k2) (isN (spS r rn) (spS r2 rn2)) 2) (List.length (cmS m m2 c)) 4) : Int) = ((oS (shA k k2) (isN (spS r rn) (spS r2 rn2)) 2) + 4)) ∧ (q9d [iD k, dl r rn, D.sl (msD m) c, dl s sn]) ∧ (q9d [iD k2, dl r2 rn2, D.sl (msD m2) c2, dl s2 sn2])) zk ⟨rfl, rfl, zl10q6, rfl, rfl⟩ True.intro
    ·have hx25 : ((List.length (cmS m m2 c) : Nat) = 0 ∧ oS (oS (shA k k2) (isN (spS r rn) (spS r2 rn2)) 2) (List.length (cmS m m2 c)) 4 = oS (shA k k2) (isN (spS r rn) (spS r2 rn2)) 2) ∨ (1 ≤ List.length (cmS m m2 c) ∧ oS (oS (shA k k2) (isN (spS r rn) (spS r2 rn2)) 2) (List.length (cmS m m2 c)) 4 = oS (shA k k2) (isN (spS r rn) (spS r2 rn2)) 2 + 4) := oS_c _ _ _
     have hx26 : 0 ≤ oS (shA k k2) (isN (spS r rn) (spS r2 rn2)) 2 ∧ oS (shA k k2) (isN (spS r rn) (spS r2 rn2)) 2 ≤ 3 := (by have h9 := shA_c k k2; have h8 := oS_c (shA k k2) (isN (spS r rn) (spS r2 rn2)) 2; omega)
     have hx27 : ((List.length (cmS m m2 c)) ≤ c) := cmS_le m m2 c
     refine y9r (nz9 4 [.call [] (.e (.c (.d (D.sl (msD (cmS m m2 c)) (List.length (cmS m m2 c)))))) [] 0 [] none, .no, .b false]) ((_) ∧ (¬ ((0 : Int) < (List.length (cmS m m2 c) : Int)))) [(2, rV 0 0), (3, rV 1 0), (5, iV (oS (shA k k2) (isN (spS r rn) (spS r2 rn2)) 2)), (30, bV false)] [(0, some (59, (t0Q3_0 k r rn m c s sn))), (1, some (59, (t0Q3_1 k2 r2 rn2 m2 c2 s2 sn2)))] 2 ⟨(Q_cm m m2 c c2 zo zo zo zo (show MsW m by with_reducible assumption) (show MsW m2 by with_reducible assumption)), zo⟩ ?_
     refine zfs ?_
     exact Rd.of () [] (P := (q9n 0) ∧ (q9n 0) ∧ (((oS (oS (shA k k2) (isN (spS r rn) (spS r2 rn2)) 2) (List.length (cmS m m2 c)) 4) : Int) = (oS (shA k k2) (isN (spS r rn) (spS r2 rn2)) 2)) ∧ (q9d [iD k, dl r rn, D.sl (msD m) c, dl s sn]) ∧ (q9d [iD k2, dl r2 rn2, D.sl (msD m2) c2, dl s2 sn2])) zk ⟨rfl, rfl, zl10q6, rfl, rfl⟩ True.intro
   ·refine AW.seqJ hcx [(5, iV (oS (oS (oS (shA k k2) (isN (spS r rn) (spS r2 rn2)) 2) (List.length (cmS m m2 c)) 4) (isN (spS s sn) (spS s2 sn2)) 8))] [] 2 ?_ ?_
    ·by_cases hx32 : ((0 : Int) < (((isN (spS s sn) (spS s2 sn2)) : Nat) : Int))
     ·have hx33 : ((isN (spS s sn) (spS s2 sn2) : Nat) = 0 ∧ oS (oS (oS (shA k k2) (isN (spS r rn) (spS r2 rn2)) 2) (List.length (cmS m m2 c)) 4) (isN (spS s sn) (spS s2 sn2)) 8 = oS (oS (shA k k2) (isN (spS r rn) (spS r2 rn2)) 2) (List.length (cmS m m2 c)) 4) ∨ (1 ≤ isN (spS s sn) (spS s2 sn2) ∧ oS (oS (oS (shA k k2) (isN (spS r rn) (spS r2 rn2)) 2) (List.length (cmS m m2 c)) 4) (isN (spS s sn) (spS s2 sn2)) 8 = oS (oS (shA k k2) (isN (spS r rn) (spS r2 rn2)) 2) (List.length (cmS m m2 c)) 4 + 8) := oS_c _ _ _
      have hx34 : 0 ≤ oS (oS (shA k k2) (isN (spS r rn) (spS r2 rn2)) 2) (List.length (cmS m m2 c)) 4 ∧ oS (oS (shA k k2) (isN (spS r rn) (spS r2 rn2)) 2) (List.length (cmS m m2 c)) 4 ≤ 7 := (by have h9 := shA_c k k2; have h8 := oS_c (shA k k2) (isN (spS r rn) (spS r2 rn2)) 2; have h7 := oS_c (oS (shA k k2) (isN (spS r rn) (spS r2 rn2)) 2) (List.length (cmS m m2 c)) 4; omega)
      have hx35 : ((List.length (isS (spS s sn) (spS s2 sn2))) = ((isN (spS s sn) (spS s2 sn2)) * 2)) := is_len _ _
      have hx36 : ((isN (spS s sn) (spS s2 sn2)) ≤ 64) := is_le _ _
      refine y9r (nz9 4 [.call [] (.e (.agg [.d (dl (isS (spS s sn) (spS s2 sn2)) (isN (spS s sn) (spS s2 sn2)))])) [] 0 [] none, .no, .no, .b true]) ((_) ∧ (((0 : Int) < (isN (spS s sn) (spS s2 sn2) : Int)))) [(5, iV (oS (oS (shA k k2) (isN (spS r rn) (spS r2 rn2)) 2) (List.length (cmS m m2 c)) 4)), (40, bV true)] [] 2 ⟨(U_Inter s s2 sn sn2 zo zo zo zo), zo⟩ ?_
      refine zt ?_
      refine y9h [.no, .i ((oS (oS (shA k k2) (isN (spS r rn) (spS r2 rn2)) 2) (List.length (cmS m m2 c)) 4) + 8), .no] (bitsI .or .i64 (oS (oS (shA k k2) (isN (spS r rn) (spS r2 rn2)) 2) (List.length (cmS m m2 c)) 4) 8 = ((oS (oS (shA k k2) (isN (spS r rn) (spS r2 rn2)) 2) (List.length (cmS m m2 c)) 4) + 8)) [(5, iV ((oS (oS (shA k k2) (isN (spS r rn) (spS r2 rn2)) 2) (List.length (cmS m m2 c)) 4) + 8))] (or_8 zo) ?_
      exact Rd.of () [] (P := (((oS (oS (oS (shA k k2) (isN (spS r rn) (spS r2 rn2)) 2) (List.length (cmS m m2 c)) 4) (isN (spS s sn) (spS s2 sn2)) 8) : Int) = ((oS (oS (shA k k2) (isN (spS r rn) (spS r2 rn2)) 2) (List.length (cmS m m2 c)) 4) + 8))) zk zl10q6 True.intro
     ·have hx37 : ((isN (spS s sn) (spS s2 sn2) : Nat) = 0 ∧ oS (oS (oS (shA k k2) (isN (spS r rn) (spS r2 rn2)) 2) (List.length (cmS m m2 c)) 4) (isN (spS s sn) (spS s2 sn2)) 8 = oS (oS (shA k k2) (isN (spS r rn) (spS r2 rn2)) 2) (List.length (cmS m m2 c)) 4) ∨ (1 ≤ isN (spS s sn) (spS s2 sn2) ∧ oS (oS (oS (shA k k2) (isN (spS r rn) (spS r2 rn2)) 2) (List.length (cmS m m2 c)) 4) (isN (spS s sn) (spS s2 sn2)) 8 = oS (oS (shA k k2) (isN (spS r rn) (spS r2 rn2)) 2) (List.length (cmS m m2 c)) 4 + 8) := oS_c _ _ _
      have hx38 : 0 ≤ oS (oS (shA k k2) (isN (spS r rn) (spS r2 rn2)) 2) (List.length (cmS m m2 c)) 4 ∧ oS (oS (shA k k2) (isN (spS r rn) (spS r2 rn2)) 2) (List.length (cmS m m2 c)) 4 ≤ 7 := (by have h9 := shA_c k k2; have h8 := oS_c (shA k k2) (isN (spS r rn) (spS r2 rn2)) 2; have h7 := oS_c (oS (shA k k2) (isN (spS r rn) (spS r2 rn2)) 2) (List.length (cmS m m2 c)) 4; omega)
      have hx39 : ((List.length (isS (spS s sn) (spS s2 sn2))) = ((isN (spS s sn) (spS s2 sn2)) * 2)) := is_len _ _
      have hx40 : ((isN (spS s sn) (spS s2 sn2)) ≤ 64) := is_le _ _
      refine y9r (nz9 4 [.call [] (.e (.agg [.d (dl (isS (spS s sn) (spS s2 sn2)) (isN (spS s sn) (spS s2 sn2)))])) [] 0 [] none, .no, .no, .b false]) ((_) ∧ (¬ ((0 : Int) < (isN (spS s sn) (spS s2 sn2) : Int)))) [(5, iV (oS (oS (shA k k2) (isN (spS r rn) (spS r2 rn2)) 2) (List.length (cmS m m2 c)) 4)), (40, bV false)] [] 2 ⟨(U_Inter s s2 sn sn2 zo zo zo zo), zo⟩ ?_
      refine zfs ?_
      exact Rd.of () [] (P := (((oS (oS (oS (shA k k2) (isN (spS r rn) (spS r2 rn2)) 2) (List.length (cmS m m2 c)) 4) (isN (spS s sn) (spS s2 sn2)) 8) : Int) = (oS (oS (shA k k2) (isN (spS r rn) (spS r2 rn2)) 2) (List.length (cmS m m2 c)) 4))) zk zl10q6 True.intro
    ·refine y9r [.no, .no] True [(4, iV (oS (oS (oS (shA k k2) (isN (spS r rn) (spS r2 rn2)) 2) (List.length (cmS m m2 c)) 4) (isN (spS s sn) (spS s2 sn2)) 8))] [] 2 trivial ?_
     refine AW.ret ?_
     exact EndP.of (.inr rfl) [] (P := (((shV k r rn m c s sn k2 r2 rn2 m2 s2 sn2) : Int) = (oS (oS (oS (shA k k2) (isN (spS r rn) (spS r2 rn2)) 2) (List.length (cmS m m2 c)) 4) (isN (spS s sn) (spS s2 sn2)) 8))) zk (by first | rfl | omega)
theorem zl10q5 {p : Prop} (h : p := by first | exact decide_eq_true (by omega) | exact decide_eq_false (by omega)) : p := h
theorem Q_ct (l : List Int) (n : Nat) (v : Int) (hn : List.length l = n) (h1 : n ≤ 1000000) : Fun 74 [.c (.d (D.sl (dI .i64 l) n)), iE v] (toG []) 0 (.e (.c (.d (D.lit (.bool (ctB l n v)))))) (toG []) 0 := by
 refine Fun.mk (n := 9) Tryz.func74 rfl rfl (Nat.le_of_ble_eq_true rfl) ?_
 intro cx hcx
 refine y9r [.no] True [(0, sV .i64 l n), (1, iV v)] [] 0 trivial ?_
 by_cases hx2 : ((0 : Int) ≤ (idxK l v n))
 ·have hx3 : ((((-1) : Int) ≤ (idxK l v n)) ∧ ((idxK l v n) < ((n : Nat) : Int))) := idxK_rng l v n
  refine y9s [.no, .no, .call [] (iV (idxK l v n)) [] 0 [] none, .b true, .no] ((_) ∧ (((0 : Int) ≤ (idxK l v n)))) [(4, bV true)] ⟨(V_sIndex l n v zo zo), zo⟩ ?_
  refine AW.ret ?_
  exact EndP.of (.inr rfl) [] (P := ((ctB l n v) = true)) zk zl10q5
 ·have hx4 : ((((-1) : Int) ≤ (idxK l v n)) ∧ ((idxK l v n) < ((n : Nat) : Int))) := idxK_rng l v n
  refine y9s [.no, .no, .call [] (iV (idxK l v n)) [] 0 [] none, .b false, .no] ((_) ∧ (¬ ((0 : Int) ≤ (idxK l v n)))) [(4, bV false)] ⟨(V_sIndex l n v zo zo), zo⟩ ?_
  refine AW.ret ?_
  exact EndP.of (.inr rfl) [] (P := ((ctB l n v) = false)) zk zl10q5
theorem Q_bl1 (d s : Int)  : Fun 75 [iE d, .c (.ptr 0 0)] (toG [(0, some (3, .ds [iD s]))]) 1 (.e (.c (.d (D.lit (.bool (stB d s)))))) (toG [(0, some (3, .ds [iD s]))]) 1 := by
 refine Fun.mk (n := 9) Tryz.func75 rfl rfl (Nat.le_of_ble_eq_true rfl) ?_
 intro cx hcx
 refine y9r [.no] True [(0, iV d), (1, rV 0 0)] [(0, some (3, .ds [iD s]))] 1 trivial ?_
 by_cases hx1 : ((adV d s) = s)
 ·refine y9s [.no, .no, .i (adV d s), .no, .b true, .no] ((bitsI .and .i64 d s = (adV d s)) ∧ (((adV d s) = s))) [(3, bV true)] ⟨rfl, zo⟩ ?_
  refine AW.ret ?_
  exact EndP.of (.inr rfl) [] (P := ((stB d s) = true) ∧ (q9d [iD s])) zk ⟨zl10q5, rfl⟩
 ·refine y9s [.no, .no, .i (adV d s), .no, .b false, .no] ((bitsI .and .i64 d s = (adV d s)) ∧ (¬ ((adV d s) = s))) [(3, bV false)] ⟨rfl, zo⟩ ?_
  refine AW.ret ?_
  exact EndP.of (.inr rfl) [] (P := ((stB d s) = false) ∧ (q9d [iD s])) zk ⟨zl10q5, rfl⟩
theorem Q_ixf (l : List Int) (n : Nat) (s : Int) (hn : List.length l = n) (h1 : n ≤ 1000000) : Fun 119 [.c (.d (D.sl (dI .i64 l) n)), .c (.fn 75 [(0, 0)])] (toG [(0, some (3, .ds [iD s]))]) 1 (iV (mtK l s n)) (toG [(0, some (3, .ds [iD s]))]) 1 := by
 refine Fun.mk (n := 19) Tryz.func119 rfl rfl (Nat.le_of_ble_eq_true rfl) ?_
 intro cx hcx
 refine y9r [.no] True [(0, sV .i64 l n), (1, .e (.c (.fn 75 [(0, 0)])))] [(0, some (3, .ds [iD s]))] 1 trivial ?_
 refine AW.seq ?_
 refine y9s [.no, .no, .no] True [(0, sV .i64 l n), (1, .e (.c (.fn 75 [(0, 0)]))), (7, uV n), (8, iV 0)] trivial ?_
 refine AW.block ?_
 refine AW.loopE 1 hcx (fun (x : {x : Nat // match x with | k => (k ≤ n) ∧ (mtK l s k = -1)}) => match x with | ⟨k, _⟩ => (⟨[(0, sV .i64 l n), (1, .e (.c (.fn 75 [(0, 0)]))), (7, uV n), (8, uV k)], [(0, some (3, .ds [iD s]))], 1⟩ : ES)) (fun x => match x with | ⟨k, _⟩ => n - k) ⟨(0 : Nat), ⟨zl10q8, rfl⟩⟩ [] (P := (q9d (dI .i64 l)) ∧ (q9n n) ∧ (q9i (n : Int)) ∧ (q9i 0) ∧ (q9d [iD s])) zk ⟨rfl, rfl, rfl, rfl, rfl⟩ ?_
 rintro ⟨k, hinv0⟩
 obtain ⟨hk, hi⟩ : (k ≤ n) ∧ (mtK l s k = -1) := hinv0
 refine AW.es (l := [(0, sV .i64 l n), (1, .e (.c (.fn 75 [(0, 0)]))), (7, uV n), (8, uV k)]) (g := [(0, some (3, .ds [iD s]))]) (nx := 1) rfl rfl rfl ?_
 by_cases hx1 : (((k : Nat) : Int) < ((n : Nat) : Int))
 ·refine y9r [.b true] (((k : Int) < (n : Int))) [(0, sV .i64 l n), (1, .e (.c (.fn 75 [(0, 0)]))), (7, uV n), (8, uV k), (9, bV true)] [(0, some (3, .ds [iD s]))] 1 zo ?_
  refine AW.seq ?_
  refine zts ?_
  refine AW.seq ?_
  refine AW.block ?_
  refine y9s [.no, .no] True [(0, sV .i64 l n), (1, .e (.c (.fn 75 [(0, 0)]))), (5, uV k), (7, uV n), (8, uV k)] trivial ?_
  rcases Bool.eq_false_or_eq_true (stB (List.getD l k 0) s) with hx2 | hx2
  ·refine y9s [.no, .no, .no, .n k, .d (D.lit (.int .i64 (List.getD l k 0))), .call [0] (bV true) [(0, some (3, .ds [iD s]))] 1 [] none] ((q9i (k : Int)) ∧ (k < n) ∧ ((List.drop k (dI .i64 l))[0]? = some (D.lit (.int .i64 (List.getD l k 0)))) ∧ (Fun 75 [iE (List.getD l k 0), .c (.ptr 0 0)] (toG [(0, some (3, .ds [iD s]))]) 1 (bV true) (toG [(0, some (3, .ds [iD s]))]) 1)) [(0, sV .i64 l n), (1, .e (.c (.fn 75 [(0, 0)]))), (5, uV k), (7, uV n), (8, uV k), (16, bV true)] ⟨rfl, zo, (dI_at _ _ _ zl10q1), (by have h0 := (Q_bl1 (List.getD l k 0) s); rw [hx2] at h0; exact h0)⟩ ?_
   refine zt ?_
   refine y9s [.no, .no] True [(4, uV k)] trivial ?_
   refine AW.ret ?_
   exact EndP.of (.inr rfl) [] (P := (((mtK l s n) : Int) = (k : Int)) ∧ (q9d [iD s])) zk ⟨(by first | rfl | exact mtK_h hi (by assumption) zo | (rw [show n = k by omega]; exact hi) | omega), rfl⟩
  ·refine y9s [.no, .no, .no, .n k, .d (D.lit (.int .i64 (List.getD l k 0))), .call [0] (bV false) [(0, some (3, .ds [iD s]))] 1 [] none] ((q9i (k : Int)) ∧ (k < n) ∧ ((List.drop k (dI .i64 l))[0]? = some (D.lit (.int .i64 (List.getD l k 0)))) ∧ (Fun 75 [iE (List.getD l k 0), .c (.ptr 0 0)] (toG [(0, some (3, .ds [iD s]))]) 1 (bV false) (toG [(0, some (3, .ds [iD s]))]) 1)) [(0, sV .i64 l n), (1, .e (.c (.fn 75 [(0, 0)]))), (5, uV k), (7, uV n), (8, uV k), (16, bV false)] ⟨rfl, zo, (dI_at _ _ _ zl10q1), (by have h0 := (Q_bl1 (List.getD l k 0) s); rw [hx2] at h0; exact h0)⟩ ?_
   refine zfs ?_
   refine y9h [.w, .no] ((-9223372036854775808) ≤ ((k : Int) + 1) ∧ ((k : Int) + 1) ≤ 9223372036854775807) [(0, sV .i64 l n), (1, .e (.c (.fn 75 [(0, 0)]))), (7, uV n), (8, iV (↑k + 1))] ⟨by omega, by omega⟩ ?_
   exact Rd.of ⟨((k + 1) : Nat), ⟨zl10q8, (mtK_m hi (by assumption))⟩⟩ [] (P := (q9d (dI .i64 l)) ∧ (q9n n) ∧ (q9i (n : Int)) ∧ (((((k + 1) : Nat) : Int) : Int) = ((k : Int) + 1)) ∧ (q9d [iD s])) zk ⟨rfl, rfl, rfl, zl10q6, rfl⟩ (show n - (k + 1) < n - k from zl10q7)
 ·refine y9r [.b false] (¬ ((k : Int) < (n : Int))) [(0, sV .i64 l n), (1, .e (.c (.fn 75 [(0, 0)]))), (7, uV n), (8, uV k), (9, bV false)] [(0, some (3, .ds [iD s]))] 1 zo ?_
  refine AW.seq ?_
  refine zf ?_
  refine AW.exit ?_
  refine y9r [.no] True [(4, iV (-1))] [(0, some (3, .ds [iD s]))] 1 trivial ?_
  refine AW.ret ?_
  exact EndP.of (.inr rfl) [] (P := (((mtK l s n) : Int) = (-1)) ∧ (q9d [iD s])) zk ⟨(by first | rfl | exact mtK_h hi (by assumption) zo | (rw [show n = k by omega]; exact hi) | omega), rfl⟩
theorem Q_cf (l : List Int) (n : Nat) (s : Int) (hn : List.length l = n) (h1 : n ≤ 1000000) : Fun 76 [.c (.d (D.sl (dI .i64 l) n)), .c (.fn 75 [(0, 0)])] (toG [(0, some (3, .ds [iD s]))]) 1 (.e (.c (.d (D.lit (.bool (mtB l n s)))))) (toG [(0, some (3, .ds [iD s]))]) 1 := by
 refine Fun.mk (n := 9) Tryz.func76 rfl rfl (Nat.le_of_ble_eq_true rfl) ?_
 intro cx hcx
 refine y9r [.no] True [(0, sV .i64 l n), (1, .e (.c (.fn 75 [(0, 0)])))] [(0, some (3, .ds [iD s]))] 1 trivial ?_
 by_cases hx1 : ((0 : Int) ≤ (mtK l s n))
 ·refine y9s [.no, .no, .call [0] (iV (mtK l s n)) [(0, some (3, .ds [iD s]))] 1 [] none, .b true, .no] ((_) ∧ (((0 : Int) ≤ (mtK l s n)))) [(4, bV true)] ⟨(Q_ixf l n s zo zo), zo⟩ ?_
  refine AW.ret ?_
  exact EndP.of (.inr rfl) [] (P := ((mtB l n s) = true) ∧ (q9d [iD s])) zk ⟨zl10q5, rfl⟩
 ·refine y9s [.no, .no, .call [0] (iV (mtK l s n)) [(0, some (3, .ds [iD s]))] 1 [] none, .b false, .no] ((_) ∧ (¬ ((0 : Int) ≤ (mtK l s n)))) [(4, bV false)] ⟨(Q_ixf l n s zo zo), zo⟩ ?_
  refine AW.ret ?_
  exact EndP.of (.inr rfl) [] (P := ((mtB l n s) = false) ∧ (q9d [iD s])) zk ⟨zl10q5, rfl⟩
theorem Q_oc64 (x : Int) (h1 : 0 ≤ x ∧ x ≤ 15) : Fun 121 [.c (.d (D.lit (.int .u64 x)))] (toG []) 0 (iV (ocV x)) (toG []) 0 := by
 have hxr : (0 ≤ on1 x ∧ on1 x ≤ 5) ∧ (0 ≤ on2 x ∧ on2 x ≤ 5) ∧ (0 ≤ on3 x ∧ on3 x ≤ 2) ∧ (0 ≤ on4 x ∧ on4 x ≤ 2) ∧ 0 ≤ ocV x ∧ ocV x ≤ 4 := on_r h1
 refine Fun.mk (n := 35) Tryz.func121 rfl rfl (Nat.le_of_ble_eq_true rfl) ?_
 intro cx hcx
 refine y9r [.no] True [(0, .e (.c (.d (D.lit (.int .u64 x)))))] [] 0 trivial ?_
 refine y9s [.no, .n 1, .i (on1 x), .no, .i (on2 x), .w, .no] ((q9i 1) ∧ ((1 : Nat) ≤ 64) ∧ (bitsI .and .u64 (x / 2) 6148914691236517205 = (on1 x)) ∧ (bitsI .and .u64 x 6148914691236517205 = (on2 x)) ∧ (0 ≤ ((on1 x) + (on2 x)) ∧ ((on1 x) + (on2 x)) ≤ 18446744073709551615)) [(0, .e (.c (.d (D.lit (.int .u64 ((on1 x) + (on2 x)))))))] ⟨rfl, zo, (on_1 h1), (on_2 h1), ⟨by omega, by omega⟩⟩ ?_
 refine y9s [.no, .n 2, .i (on3 x), .no, .i (on4 x), .w, .no] ((q9i 2) ∧ ((2 : Nat) ≤ 64) ∧ (bitsI .and .u64 (((on1 x) + (on2 x)) / 4) 3689348814741910323 = (on3 x)) ∧ (bitsI .and .u64 ((on1 x) + (on2 x)) 3689348814741910323 = (on4 x)) ∧ (0 ≤ ((on3 x) + (on4 x)) ∧ ((on3 x) + (on4 x)) ≤ 18446744073709551615)) [(0, .e (.c (.d (D.lit (.int .u64 ((on3 x) + (on4 x)))))))] ⟨rfl, zo, (on_3 h1), (on_4 h1), ⟨by omega, by omega⟩⟩ ?_
 refine y9s [.no, .n 4, .no, .w, .i (ocV x), .no] ((q9i 4) ∧ ((4 : Nat) ≤ 64) ∧ (0 ≤ ((((on3 x) + (on4 x)) / 16) + ((on3 x) + (on4 x))) ∧ ((((on3 x) + (on4 x)) / 16) + ((on3 x) + (on4 x))) ≤ 18446744073709551615) ∧ (bitsI .and .u64 ((((on3 x) + (on4 x)) / 16) + ((on3 x) + (on4 x))) 1085102592571150095 = (ocV x))) [(0, .e (.c (.d (D.lit (.int .u64 (ocV x))))))] ⟨rfl, zo, ⟨by omega, by omega⟩, (on_5 h1 zo)⟩ ?_
 refine y9s [.no, .no, .n 8, .w, .no] ((q9i 8) ∧ ((8 : Nat) ≤ 64) ∧ (0 ≤ ((ocV x) + ((ocV x) / 256)) ∧ ((ocV x) + ((ocV x) / 256)) ≤ 18446744073709551615)) [(0, .e (.c (.d (D.lit (.int .u64 ((ocV x) + ((ocV x) / 256)))))))] ⟨rfl, zo, ⟨by omega, by omega⟩⟩ ?_
 refine y9s [.no, .no, .n 16, .w, .no] ((q9i 16) ∧ ((16 : Nat) ≤ 64) ∧ (0 ≤ (((ocV x) + ((ocV x) / 256)) + (((ocV x) + ((ocV x) / 256)) / 65536)) ∧ (((ocV x) + ((ocV x) / 256)) + (((ocV x) + ((ocV x) / 256)) / 65536)) ≤ 18446744073709551615)) [(0, .e (.c (.d (D.lit (.int .u64 (((ocV x) + ((ocV x) / 256)) + (((ocV x) + ((ocV x) / 256)) / 65536)))))))] ⟨rfl, zo, ⟨by omega, by omega⟩⟩ ?_
 refine y9s [.no, .no, .n 32, .w, .no] ((q9i 32) ∧ ((32 : Nat) ≤ 64) ∧ (0 ≤ ((((ocV x) + ((ocV x) / 256)) + (((ocV x) + ((ocV x) / 256)) / 65536)) + ((((ocV x) + ((ocV x) / 256)) + (((ocV x) + ((ocV x) / 256)) / 65536)) / 4294967296)) ∧ ((((ocV x) + ((ocV x) / 256)) + (((ocV x) + ((ocV x) / 256)) / 65536)) + ((((ocV x) + ((ocV x) / 256)) + (((ocV x) + ((ocV x) / 256)) / 65536)) / 4294967296)) ≤ 18446744073709551615)) [(0, .e (.c (.d (D.lit (.int .u64 ((((ocV x) + ((ocV x) / 256)) + (((ocV x) + ((ocV x) / 256)) / 65536)) + ((((ocV x) + ((ocV x) / 256)) + (((ocV x) + ((ocV x) / 256)) / 65536)) / 4294967296)))))))] ⟨rfl, zo, ⟨by omega, by omega⟩⟩ ?_
 refine y9s [.no, .w, .i (ocV x), .no] (((-9223372036854775808) ≤ ((((ocV x) + ((ocV x) / 256)) + (((ocV x) + ((ocV x) / 256)) / 65536)) + ((((ocV x) + ((ocV x) / 256)) + (((ocV x) + ((ocV x) / 256)) / 65536)) / 4294967296)) ∧ ((((ocV x) + ((ocV x) / 256)) + (((ocV x) + ((ocV x) / 256)) / 65536)) + ((((ocV x) + ((ocV x) / 256)) + (((ocV x) + ((ocV x) / 256)) / 65536)) / 4294967296)) ≤ 9223372036854775807) ∧ (bitsI .and .i64 ((((ocV x) + ((ocV x) / 256)) + (((ocV x) + ((ocV x) / 256)) / 65536)) + ((((ocV x) + ((ocV x) / 256)) + (((ocV x) + ((ocV x) / 256)) / 65536)) / 4294967296)) 127 = (ocV x))) [(2, iV (ocV x))] ⟨⟨by omega, by omega⟩, (on_6 h1 zo)⟩ ?_
 refine AW.ret ?_
 exact EndP.of (.inr rfl) [] (P := (q9i (ocV x))) zk rfl
theorem Q_oc (x : Int) (h1 : 0 ≤ x ∧ x ≤ 15) : Fun 77 [.c (.d (D.lit (.int .u64 x)))] (toG []) 0 (iV (ocV x)) (toG []) 0 := by
 refine Fun.mk (n := 8) Tryz.func77 rfl rfl (Nat.le_of_ble_eq_true rfl) ?_
 intro cx hcx
 refine y9r [.no] True [(0, .e (.c (.d (D.lit (.int .u64 x)))))] [] 0 trivial ?_
 refine AW.seq ?_
 refine AW.cond_f (.lit rfl) ?_
 refine AW.skip ?_
 refine y9s [.no, .call [] (iV (ocV x)) [] 0 [] none, .no] _ [(2, iV (ocV x))] (Q_oc64 x zo) ?_
 refine AW.ret ?_
 exact EndP.of (.inr rfl) [] (P := (q9i (ocV x))) zk rfl
abbrev t0Q10_0 (a : List Bx) (i : Nat) : BC := .ds [iD (qbK (bxL a) i), D.sl (dI .i64 (qbR (bxL a) i)) (qbN (bxL a) i), D.sl (msD (qbM (bxL a) i)) (List.length (qbM (bxL a) i)), D.sl (dI .i64 (qbS (bxL a) i)) (qbT (bxL a) i)]
theorem Q_Blame (a b : List Bx) (n m : Nat) (hn : List.length a = n) (hm : List.length b = m) (h1 : n ≤ 1000) (h2 : m ≤ 1000) (hW : BsW a) (hV : BsW b) : Fun 31 [.c (.d (D.sl (bxD a) n)), .c (.d (D.sl (bxD b) m))] (toG []) 0 (iV (blV a b)) (toG []) 0 := by
 have hL1 : List.length (bxL a) ≤ 64 ∧ List.length (bxL b) ≤ 64 := ⟨bxL_64 a, bxL_64 b⟩
 refine Fun.mk (n := 63) Tryz.func31 rfl rfl (Nat.le_of_ble_eq_true rfl) ?_
 intro cx hcx
 refine y9r [.no] True [(0, .e (.c (.d (D.sl (bxD a) n)))), (1, .e (.c (.d (D.sl (bxD b) m))))] [] 0 trivial ?_
 refine y9s [.no] True [(0, .e (.c (.d (D.sl (bxD a) n)))), (1, .e (.c (.d (D.sl (bxD b) m)))), (5, nV)] trivial ?_
 refine AW.seq ?_
 have hx1 : ((List.length (bxL a)) ≤ n) := (by have h9 := bxL_le a; omega)
 refine y9s [.no, .call [] (.e (.c (.d (D.sl (bxD (bxL a)) (List.length (bxL a)))))) [] 0 [] none, .no, .no] _ [(1, .e (.c (.d (D.sl (bxD b) m)))), (5, nV), (14, .e (.c (.d (D.sl (bxD (bxL a)) (List.length (bxL a)))))), (15, uV (List.length (bxL a))), (16, iV 0)] (M_boxes a n zo zo (show BsW a by with_reducible assumption)) ?_
 refine AW.block ?_
 refine AW.adoptS 5 1 3 rfl ?_
 refine AW.loopE 0 hcx (fun (x : {x : Nat × Nat × List Int // match x with | (i, q, o) => (i ≤ List.length (bxL a)) ∧ (prS (bxL a) (bxL b) i = o) ∧ (List.length o = q) ∧ (q ≤ i * 64)}) => match x with | ⟨(i, q, o), _⟩ => (⟨[(1, .e (.c (.d (D.sl (bxD b) m)))), (5, oV 1 0 q 1), (14, .e (.c (.d (D.sl (bxD (bxL a)) (List.length (bxL a)))))), (15, uV (List.length (bxL a))), (16, uV i)], [(1, some (3, .ds (dI .i64 o)))], 2⟩ : ES)) (fun x => match x with | ⟨(i, q, o), _⟩ => List.length (bxL a) - i) ⟨((0 : Nat), (0 : Nat), (([] : List Int) : List Int)), ⟨zl10q8, rfl, rfl, zo⟩⟩ [(1, 0)] (P := (q9d (bxD b)) ∧ (q9n m) ∧ (q9n 0) ∧ (q9n 0) ∧ (q9d (bxD (bxL a))) ∧ (q9n (List.length (bxL a))) ∧ (q9i (List.length (bxL a) : Int)) ∧ (q9i 0) ∧ (((dI .i64 ([] : List Int)) : List D) = ([] : List D))) zk ⟨rfl, rfl, rfl, rfl, rfl, rfl, rfl, rfl, (by first | rfl | with_reducible assumption)⟩ ?_
 rintro ⟨⟨i, q, o⟩, hinv0⟩
 obtain ⟨hi, ho, hq, hqm⟩ : (i ≤ List.length (bxL a)) ∧ (prS (bxL a) (bxL b) i = o) ∧ (List.length o = q) ∧ (q ≤ i * 64) := hinv0
 refine AW.es (l := [(1, .e (.c (.d (D.sl (bxD b) m)))), (5, oV 1 0 q 1), (14, .e (.c (.d (D.sl (bxD (bxL a)) (List.length (bxL a)))))), (15, uV (List.length (bxL a))), (16, uV i)]) (g := [(1, some (3, .ds (dI .i64 o)))]) (nx := 2) rfl rfl rfl ?_
 by_cases hx2 : (((i : Nat) : Int) < (((List.length (bxL a)) : Nat) : Int))
 ·refine y9r [.b true] (((i : Int) < (List.length (bxL a) : Int))) [(1, .e (.c (.d (D.sl (bxD b) m)))), (5, oV 1 0 q 1), (14, .e (.c (.d (D.sl (bxD (bxL a)) (List.length (bxL a)))))), (15, uV (List.length (bxL a))), (16, uV i), (17, bV true)] [(1, some (3, .ds (dI .i64 o)))] 2 zo ?_
  refine AW.seq ?_
  refine zts ?_
  refine AW.seq ?_
  refine AW.block ?_
  obtain ⟨hx3, hx4, hx5, hx6, hx7⟩ := BsW.at (bxL_W (show BsW a by with_reducible assumption)) (i)
  have hx8 : ((1 : Nat) ≤ (List.length (qbM (bxL a) i))) := bxL_ne zo
  refine y9r [.n i, .ds [iD (qbK (bxL a) i), dl (qbR (bxL a) i) (qbN (bxL a) i), D.sl (msD (qbM (bxL a) i)) (List.length (qbM (bxL a) i)), dl (qbS (bxL a) i) (qbT (bxL a) i)], .no, .no] ((q9i (i : Int)) ∧ (i < (List.length (bxL a))) ∧ (List.take 4 (List.drop (i * 4) (bxD (bxL a))) = [iD (qbK (bxL a) i), dl (qbR (bxL a) i) (qbN (bxL a) i), D.sl (msD (qbM (bxL a) i)) (List.length (qbM (bxL a) i)), dl (qbS (bxL a) i) (qbT (bxL a) i)]) ∧ (([iD (qbK (bxL a) i), dl (qbR (bxL a) i) (qbN (bxL a) i), D.sl (msD (qbM (bxL a) i)) (List.length (qbM (bxL a) i)), dl (qbS (bxL a) i) (qbT (bxL a) i)] : List D).length = 4)) [(1, .e (.c (.d (D.sl (bxD b) m)))), (5, oV 1 0 q 1), (7, rV 2 0), (14, .e (.c (.d (D.sl (bxD (bxL a)) (List.length (bxL a)))))), (15, uV (List.length (bxL a))), (16, uV i)] [(1, some (3, .ds (dI .i64 o))), (2, some (59, (t0Q10_0 a i)))] 3 ⟨rfl, zo, (bx_at zl10q3), rfl⟩ ?_
  have hx9 : ((List.length (bxL b)) ≤ m) := (by have h9 := bxL_le b; omega)
  refine y9s [.no, .call [] (.e (.c (.d (D.sl (bxD (bxL b)) (List.length (bxL b)))))) [] 0 [] none, .no, .no] _ [(1, .e (.c (.d (D.sl (bxD b) m)))), (5, oV 1 0 q 1), (7, rV 2 0), (14, .e (.c (.d (D.sl (bxD (bxL a)) (List.length (bxL a)))))), (15, uV (List.length (bxL a))), (16, uV i), (21, .e (.c (.d (D.sl (bxD (bxL b)) (List.length (bxL b)))))), (22, uV (List.length (bxL b))), (23, iV 0)] (M_boxes b m zo zo (show BsW b by with_reducible assumption)) ?_
  refine AW.block ?_
  refine AW.loopE 0 hcx (fun (x : {x : Nat × Nat × List Int // match x with | (j, p, x) => (j ≤ List.length (bxL b)) ∧ (prJ (bxL a) (bxL b) i j = x) ∧ (List.length x = p) ∧ (p ≤ i * 64 + j)}) => match x with | ⟨(j, p, x), _⟩ => (⟨[(1, .e (.c (.d (D.sl (bxD b) m)))), (5, oV 3 0 p 1), (7, rV 2 0), (14, .e (.c (.d (D.sl (bxD (bxL a)) (List.length (bxL a)))))), (15, uV (List.length (bxL a))), (16, uV i), (21, .e (.c (.d (D.sl (bxD (bxL b)) (List.length (bxL b)))))), (22, uV (List.length (bxL b))), (23, uV j)], [(3, some (3, .ds (dI .i64 x))), (2, some (59, (t0Q10_0 a i)))], 4⟩ : ES)) (fun x => match x with | ⟨(j, p, x), _⟩ => List.length (bxL b) - j) ⟨((0 : Nat), (q : Nat), (o : List Int)), ⟨zl10q8, (prJ_0 ho), (by first | assumption | omega), zo⟩⟩ [(3, 1)] (P := (q9d (bxD b)) ∧ (q9n m) ∧ (q9n 0) ∧ (q9n q) ∧ (q9n 0) ∧ (q9d (bxD (bxL a))) ∧ (q9n (List.length (bxL a))) ∧ (q9i (List.length (bxL a) : Int)) ∧ (q9i (i : Int)) ∧ (q9d (bxD (bxL b))) ∧ (q9n (List.length (bxL b))) ∧ (q9i (List.length (bxL b) : Int)) ∧ (q9i 0) ∧ (q9d (dI .i64 o)) ∧ (q9d [iD (qbK (bxL a) i), dl (qbR (bxL a) i) (qbN (bxL a) i), D.sl (msD (qbM (bxL a) i)) (List.length (qbM (bxL a) i)), dl (qbS (bxL a) i) (qbT (bxL a) i)])) zk ⟨rfl, rfl, rfl, rfl, rfl, rfl, rfl, rfl, rfl, rfl, rfl, rfl, rfl, rfl, rfl⟩ ?_
  rintro ⟨⟨j, p, x⟩, hinv1⟩
  obtain ⟨hj, hJ, hp, hpm⟩ : (j ≤ List.length (bxL b)) ∧ (prJ (bxL a) (bxL b) i j = x) ∧ (List.length x = p) ∧ (p ≤ i * 64 + j) := hinv1
  refine AW.es (l := [(1, .e (.c (.d (D.sl (bxD b) m)))), (5, oV 3 0 p 1), (7, rV 2 0), (14, .e (.c (.d (D.sl (bxD (bxL a)) (List.length (bxL a)))))), (15, uV (List.length (bxL a))), (16, uV i), (21, .e (.c (.d (D.sl (bxD (bxL b)) (List.length (bxL b)))))), (22, uV (List.length (bxL b))), (23, uV j)]) (g := [(3, some (3, .ds (dI .i64 x))), (2, some (59, (t0Q10_0 a i)))]) (nx := 4) rfl rfl rfl ?_
  by_cases hx10 : (((j : Nat) : Int) < (((List.length (bxL b)) : Nat) : Int))
  ·refine y9r [.b true] (((j : Int) < (List.length (bxL b) : Int))) [(1, .e (.c (.d (D.sl (bxD b) m)))), (5, oV 3 0 p 1), (7, rV 2 0), (14, .e (.c (.d (D.sl (bxD (bxL a)) (List.length (bxL a)))))), (15, uV (List.length (bxL a))), (16, uV i), (21, .e (.c (.d (D.sl (bxD (bxL b)) (List.length (bxL b)))))), (22, uV (List.length (bxL b))), (23, uV j), (24, bV true)] [(2, some (59, (t0Q10_0 a i))), (3, some (3, .ds (dI .i64 x)))] 4 zo ?_
   refine AW.seq ?_
   refine zts ?_
   refine AW.seq ?_
   refine AW.block ?_
   obtain ⟨hx11, hx12, hx13, hx14, hx15⟩ := BsW.at (bxL_W (show BsW b by with_reducible assumption)) (j)
   have hx16 : ((1 : Nat) ≤ (List.length (qbM (bxL b) j))) := bxL_ne zo
   refine y9r [.n j, .ds [iD (qbK (bxL b) j), dl (qbR (bxL b) j) (qbN (bxL b) j), D.sl (msD (qbM (bxL b) j)) (List.length (qbM (bxL b) j)), dl (qbS (bxL b) j) (qbT (bxL b) j)], .no, .no] ((q9i (j : Int)) ∧ (j < (List.length (bxL b))) ∧ (List.take 4 (List.drop (j * 4) (bxD (bxL b))) = [iD (qbK (bxL b) j), dl (qbR (bxL b) j) (qbN (bxL b) j), D.sl (msD (qbM (bxL b) j)) (List.length (qbM (bxL b) j)), dl (qbS (bxL b) j) (qbT (bxL b) j)]) ∧ (([iD (qbK (bxL b) j), dl (qbR (bxL b) j) (qbN (bxL b) j), D.sl (msD (qbM (bxL b) j)) (List.length (qbM (bxL b) j)), dl (qbS (bxL b) j) (qbT (bxL b) j)] : List D).length = 4)) [(1, .e (.c (.d (D.sl (bxD b) m)))), (5, oV 3 0 p 1), (7, rV 2 0), (9, rV 4 0), (14, .e (.c (.d (D.sl (bxD (bxL a)) (List.length (bxL a)))))), (15, uV (List.length (bxL a))), (16, uV i), (21, .e (.c (.d (D.sl (bxD (bxL b)) (List.length (bxL b)))))), (22, uV (List.length (bxL b))), (23, uV j)] [(2, some (59, (t0Q10_0 a i))), (3, some (3, .ds (dI .i64 x))), (4, some (59, .ds [iD (qbK (bxL b) j), dl (qbR (bxL b) j) (qbN (bxL b) j), D.sl (msD (qbM (bxL b) j)) (List.length (qbM (bxL b) j)), dl (qbS (bxL b) j) (qbT (bxL b) j)]))] 5 ⟨rfl, zo, (bx_at zl10q3), rfl⟩ ?_
   have hx17 : (((0 : Int) ≤ (shV (qbK (bxL a) i) (qbR (bxL a) i) (qbN (bxL a) i) (qbM (bxL a) i) (List.length (qbM (bxL a) i)) (qbS (bxL a) i) (qbT (bxL a) i) (qbK (bxL b) j) (qbR (bxL b) j) (qbN (bxL b) j) (qbM (bxL b) j) (qbS (bxL b) j) (qbT (bxL b) j))) ∧ ((shV (qbK (bxL a) i) (qbR (bxL a) i) (qbN (bxL a) i) (qbM (bxL a) i) (List.length (qbM (bxL a) i)) (qbS (bxL a) i) (qbT (bxL a) i) (qbK (bxL b) j) (qbR (bxL b) j) (qbN (bxL b) j) (qbM (bxL b) j) (qbS (bxL b) j) (qbT (bxL b) j)) ≤ 15)) := shV_rng ..
   refine y9g [.no, .no, .no, .call [] (iV (shV (qbK (bxL a) i) (qbR (bxL a) i) (qbN (bxL a) i) (qbM (bxL a) i) (List.length (qbM (bxL a) i)) (qbS (bxL a) i) (qbT (bxL a) i) (qbK (bxL b) j) (qbR (bxL b) j) (qbN (bxL b) j) (qbM (bxL b) j) (qbS (bxL b) j) (qbT (bxL b) j))) [] 0 [] none, .no, .ap none (p + 1) (dI .i64 (x ++ ([(shV (qbK (bxL a) i) (qbR (bxL a) i) (qbN (bxL a) i) (qbM (bxL a) i) (List.length (qbM (bxL a) i)) (qbS (bxL a) i) (qbT (bxL a) i) (qbK (bxL b) j) (qbR (bxL b) j) (qbN (bxL b) j) (qbM (bxL b) j) (qbS (bxL b) j) (qbT (bxL b) j))] : List Int))), .no] ((_) ∧ ([iD (shV (qbK (bxL a) i) (qbR (bxL a) i) (qbN (bxL a) i) (qbM (bxL a) i) (List.length (qbM (bxL a) i)) (qbS (bxL a) i) (qbT (bxL a) i) (qbK (bxL b) j) (qbR (bxL b) j) (qbN (bxL b) j) (qbM (bxL b) j) (qbS (bxL b) j) (qbT (bxL b) j))].length = 1 * 1) ∧ (((dI .i64 x) : List D).length = p * 1) ∧ ((p + 1) * 8 ≤ 140737488355328) ∧ (p + 1 = (p + 1)) ∧ (((dI .i64 x) : List D) ++ [iD (shV (qbK (bxL a) i) (qbR (bxL a) i) (qbN (bxL a) i) (qbM (bxL a) i) (List.length (qbM (bxL a) i)) (qbS (bxL a) i) (qbT (bxL a) i) (qbK (bxL b) j) (qbR (bxL b) j) (qbN (bxL b) j) (qbM (bxL b) j) (qbS (bxL b) j) (qbT (bxL b) j))] = (dI .i64 (x ++ ([(shV (qbK (bxL a) i) (qbR (bxL a) i) (qbN (bxL a) i) (qbM (bxL a) i) (List.length (qbM (bxL a) i)) (qbS (bxL a) i) (qbT (bxL a) i) (qbK (bxL b) j) (qbR (bxL b) j) (qbN (bxL b) j) (qbM (bxL b) j) (qbS (bxL b) j) (qbT (bxL b) j))] : List Int))))) [(1, .e (.c (.d (D.sl (bxD b) m)))), (5, oV 6 0 (p + 1) 1), (7, rV 2 0), (14, .e (.c (.d (D.sl (bxD (bxL a)) (List.length (bxL a)))))), (15, uV (List.length (bxL a))), (16, uV i), (21, .e (.c (.d (D.sl (bxD (bxL b)) (List.length (bxL b)))))), (22, uV (List.length (bxL b))), (23, uV j)] [(2, some (59, (t0Q10_0 a i))), (6, some (3, .ds (dI .i64 (x ++ ([(shV (qbK (bxL a) i) (qbR (bxL a) i) (qbN (bxL a) i) (qbM (bxL a) i) (List.length (qbM (bxL a) i)) (qbS (bxL a) i) (qbT (bxL a) i) (qbK (bxL b) j) (qbR (bxL b) j) (qbN (bxL b) j) (qbM (bxL b) j) (qbS (bxL b) j) (qbT (bxL b) j))] : List Int)))))] 7 ⟨(Q_sh (qbK (bxL a) i) (qbR (bxL a) i) (qbN (bxL a) i) (qbM (bxL a) i) (List.length (qbM (bxL a) i)) (qbS (bxL a) i) (qbT (bxL a) i) (qbK (bxL b) j) (qbR (bxL b) j) (qbN (bxL b) j) (qbM (bxL b) j) (List.length (qbM (bxL b) j)) (qbS (bxL b) j) (qbT (bxL b) j) zl10q2 zl10q2 rfl zl10q2 zl10q2 zl10q2 (BsW.ms (bxL_W (show BsW a by with_reducible assumption)) _) zl10q2 zl10q2 rfl zl10q2 zl10q2 zl10q2 (BsW.ms (bxL_W (show BsW b by with_reducible assumption)) _)), zl10q1, zl10q1, zo, zo, (dI_app .i64 x ([(shV (qbK (bxL a) i) (qbR (bxL a) i) (qbN (bxL a) i) (qbM (bxL a) i) (List.length (qbM (bxL a) i)) (qbS (bxL a) i) (qbT (bxL a) i) (qbK (bxL b) j) (qbR (bxL b) j) (qbN (bxL b) j) (qbM (bxL b) j) (qbS (bxL b) j) (qbT (bxL b) j))] : List Int))⟩ ?_
   refine y9h [.w, .no] ((-9223372036854775808) ≤ ((j : Int) + 1) ∧ ((j : Int) + 1) ≤ 9223372036854775807) [(1, .e (.c (.d (D.sl (bxD b) m)))), (5, oV 6 0 (p + 1) 1), (7, rV 2 0), (14, .e (.c (.d (D.sl (bxD (bxL a)) (List.length (bxL a)))))), (15, uV (List.length (bxL a))), (16, uV i), (21, .e (.c (.d (D.sl (bxD (bxL b)) (List.length (bxL b)))))), (22, uV (List.length (bxL b))), (23, iV (↑j + 1))] ⟨by omega, by omega⟩ ?_
   exact Rd.of ⟨(((j + 1) : Nat), ((p + 1) : Nat), ((x ++ ([(shV (qbK (bxL a) i) (qbR (bxL a) i) (qbN (bxL a) i) (qbM (bxL a) i) (List.length (qbM (bxL a) i)) (qbS (bxL a) i) (qbT (bxL a) i) (qbK (bxL b) j) (qbR (bxL b) j) (qbN (bxL b) j) (qbM (bxL b) j) (qbS (bxL b) j) (qbT (bxL b) j))] : List Int)) : List Int)), ⟨zl10q8, (prJ_s hJ rfl), zl10q4, zo⟩⟩ [(3, 6)] (P := (q9d (bxD b)) ∧ (q9n m) ∧ (q9n 0) ∧ (q9n (p + 1)) ∧ (q9n 0) ∧ (q9d (bxD (bxL a))) ∧ (q9n (List.length (bxL a))) ∧ (q9i (List.length (bxL a) : Int)) ∧ (q9i (i : Int)) ∧ (q9d (bxD (bxL b))) ∧ (q9n (List.length (bxL b))) ∧ (q9i (List.length (bxL b) : Int)) ∧ (((((j + 1) : Nat) : Int) : Int) = ((j : Int) + 1)) ∧ (q9d (dI .i64 (x ++ ([(shV (qbK (bxL a) i) (qbR (bxL a) i) (qbN (bxL a) i) (qbM (bxL a) i) (List.length (qbM (bxL a) i)) (qbS (bxL a) i) (qbT (bxL a) i) (qbK (bxL b) j) (qbR (bxL b) j) (qbN (bxL b) j) (qbM (bxL b) j) (qbS (bxL b) j) (qbT (bxL b) j))] : List Int)))) ∧ (q9d [iD (qbK (bxL a) i), dl (qbR (bxL a) i) (qbN (bxL a) i), D.sl (msD (qbM (bxL a) i)) (List.length (qbM (bxL a) i)), dl (qbS (bxL a) i) (qbT (bxL a) i)])) zk ⟨rfl, rfl, rfl, rfl, rfl, rfl, rfl, rfl, rfl, rfl, rfl, rfl, zl10q6, rfl, rfl⟩ (show List.length (bxL b) - (j + 1) < List.length (bxL b) - j from zl10q7)
  ·refine y9r [.b false] (¬ ((j : Int) < (List.length (bxL b) : Int))) [(1, .e (.c (.d (D.sl (bxD b) m)))), (5, oV 3 0 p 1), (7, rV 2 0), (14, .e (.c (.d (D.sl (bxD (bxL a)) (List.length (bxL a)))))), (15, uV (List.length (bxL a))), (16, uV i), (21, .e (.c (.d (D.sl (bxD (bxL b)) (List.length (bxL b)))))), (22, uV (List.length (bxL b))), (23, uV j), (24, bV false)] [(2, some (59, (t0Q10_0 a i))), (3, some (3, .ds (dI .i64 x)))] 4 zo ?_
   refine AW.seq ?_
   refine zf ?_
   refine AW.exit ?_
   refine y9g [.w, .no] ((-9223372036854775808) ≤ ((i : Int) + 1) ∧ ((i : Int) + 1) ≤ 9223372036854775807) [(1, .e (.c (.d (D.sl (bxD b) m)))), (5, oV 3 0 p 1), (14, .e (.c (.d (D.sl (bxD (bxL a)) (List.length (bxL a)))))), (15, uV (List.length (bxL a))), (16, iV (↑i + 1))] [(3, some (3, .ds (dI .i64 x)))] 4 ⟨by omega, by omega⟩ ?_
   exact Rd.of ⟨(((i + 1) : Nat), (p : Nat), (x : List Int)), ⟨zl10q8, (prJ_e hJ zo), (by first | assumption | omega), zo⟩⟩ [(1, 3)] (P := (q9d (bxD b)) ∧ (q9n m) ∧ (q9n 0) ∧ (q9n p) ∧ (q9d (bxD (bxL a))) ∧ (q9n (List.length (bxL a))) ∧ (q9i (List.length (bxL a) : Int)) ∧ (((((i + 1) : Nat) : Int) : Int) = ((i : Int) + 1)) ∧ (q9d (dI .i64 x))) zk ⟨rfl, rfl, rfl, rfl, rfl, rfl, rfl, zl10q6, rfl⟩ (show List.length (bxL a) - (i + 1) < List.length (bxL a) - i from zl10q7)
 ·refine y9r [.b false] (¬ ((i : Int) < (List.length (bxL a) : Int))) [(1, .e (.c (.d (D.sl (bxD b) m)))), (5, oV 1 0 q 1), (14, .e (.c (.d (D.sl (bxD (bxL a)) (List.length (bxL a)))))), (15, uV (List.length (bxL a))), (16, uV i), (17, bV false)] [(1, some (3, .ds (dI .i64 o)))] 2 zo ?_
  refine AW.seq ?_
  refine zf ?_
  refine AW.exit ?_
  refine AW.seq ?_
  rcases Bool.eq_false_or_eq_true (ctB o q 15) with hx18 | hx18
  ·refine AW.freeze 1 (l' := [(1, .e (.c (.d (D.sl (bxD b) m)))), (5, sV .i64 o q), (14, .e (.c (.d (D.sl (bxD (bxL a)) (List.length (bxL a)))))), (15, uV (List.length (bxL a))), (16, uV i), (17, bV false)]) (g' := []) rfl (FzS.cons rfl (.same _) (FzS.cons rfl (.e (.c (@FzC.own 1 ((dI .i64 o) : List D) 0 q 1 true ((dI .i64 o) : List D) zl10q0 zl10q1))) (FzS.cons rfl (.same _) (FzS.cons rfl (.same _) (FzS.cons rfl (.same _) (FzS.cons rfl (.same _) FzS.nil)))))) FzG.nil ?_
   refine y9r [.no, .call [] (bV true) [] 0 [] none] (Fun 74 [.c (.d (dl o q)), iE 15] (toG []) 0 (bV true) (toG []) 0) [(5, sV .i64 o q), (36, bV true)] [] 2 (by have h0 := (Q_ct o q 15 zo zo); rw [hx18] at h0; exact h0) ?_
   refine zt ?_
   refine y9s [.no] True [(4, iV 0)] trivial ?_
   refine AW.ret ?_
   exact EndP.of (.inr rfl) [] (P := (((blV a b) : Int) = 0)) zk (by first | exact bl_c ho zo hq (by assumption) | exact bl_e ho zo hq (by assumption) hy zo)
  ·refine AW.freeze 1 (l' := [(1, .e (.c (.d (D.sl (bxD b) m)))), (5, sV .i64 o q), (14, .e (.c (.d (D.sl (bxD (bxL a)) (List.length (bxL a)))))), (15, uV (List.length (bxL a))), (16, uV i), (17, bV false)]) (g' := []) rfl (FzS.cons rfl (.same _) (FzS.cons rfl (.e (.c (@FzC.own 1 ((dI .i64 o) : List D) 0 q 1 true ((dI .i64 o) : List D) zl10q0 zl10q1))) (FzS.cons rfl (.same _) (FzS.cons rfl (.same _) (FzS.cons rfl (.same _) (FzS.cons rfl (.same _) FzS.nil)))))) FzG.nil ?_
   refine y9r [.no, .call [] (bV false) [] 0 [] none] (Fun 74 [.c (.d (dl o q)), iE 15] (toG []) 0 (bV false) (toG []) 0) [(5, sV .i64 o q), (36, bV false)] [] 2 (by have h0 := (Q_ct o q 15 zo zo); rw [hx18] at h0; exact h0) ?_
   refine zfs ?_
   refine y9s [.no] True [(5, sV .i64 o q), (10, iV 15)] trivial ?_
   refine AW.seq ?_
   refine y9r [.no, .no] True [(5, sV .i64 o q), (10, iV 15), (11, rV 2 0)] [(2, some (3, .ds [iD 14]))] 3 trivial ?_
   refine AW.block ?_
   refine AW.loopE 0 hcx (fun (x : {x : Nat × Int // match x with | (z, y) => (z ≤ 14 ∧ 0 ≤ y ∧ y ≤ 15) ∧ (blK o q z = y)}) => match x with | ⟨(z, y), _⟩ => (⟨[(5, sV .i64 o q), (10, iV y), (11, rV 3 0)], [(3, some (3, .ds [iD (14 - (z : Int))]))], 4⟩ : ES)) (fun x => match x with | ⟨(z, y), _⟩ => 14 - z) ⟨((0 : Nat), (15 : Int)), ⟨zl10q8, rfl⟩⟩ [(3, 2)] (P := (q9d (dI .i64 o)) ∧ (q9n q) ∧ (q9i 15) ∧ (q9n 0) ∧ (q9d [iD 14])) zk ⟨rfl, rfl, rfl, rfl, rfl⟩ ?_
   rintro ⟨⟨z, y⟩, hinv2⟩
   obtain ⟨hz, hy⟩ : (z ≤ 14 ∧ 0 ≤ y ∧ y ≤ 15) ∧ (blK o q z = y) := hinv2
   refine AW.es (l := [(5, sV .i64 o q), (10, iV y), (11, rV 3 0)]) (g := [(3, some (3, .ds [iD (14 - (z : Int))]))]) (nx := 4) rfl rfl rfl ?_
   refine AW.seq ?_
   by_cases hx19 : ((0 : Int) < (14 - ((z : Nat) : Int)))
   ·refine y9r [.no, .b true] (((0 : Int) < (14 - (z : Int)))) [(5, sV .i64 o q), (10, iV y), (11, rV 3 0), (38, bV true)] [(3, some (3, .ds [iD (14 - ↑z)]))] 4 zo ?_
    refine zts ?_
    refine AW.seq ?_
    refine AW.block ?_
    refine y9s [.no, .no] True [(5, sV .i64 o q), (10, iV y), (11, rV 3 0), (12, .e (.c (.fn 75 [(3, 0)])))] trivial ?_
    by_cases hx20 : ((0 : Int) < ((q : Nat) : Int))
    ·rcases Bool.eq_false_or_eq_true (mtB o q (14 - ((z : Nat) : Int))) with hx21 | hx21
     ·refine y9s [.no, .no, .b true, .no, .no, .no, .call [3] (bV true) [(0, some (3, .ds [iD (14 - (z : Int))]))] 1 [] none, .no, .no, .no, .no] ((((0 : Int) < (q : Int))) ∧ (Fun 76 [.c (.d (dl o q)), .c (.fn 75 [(0, 0)])] (toG [(0, some (3, .ds [iD (14 - (z : Int))]))]) 1 (bV true) (toG [(0, some (3, .ds [iD (14 - (z : Int))]))]) 1)) [(5, sV .i64 o q), (10, iV y), (11, rV 3 0), (59, bV false)] ⟨zo, (by have h0 := (Q_cf o q (14 - (z : Int)) zo zo); rw [hx21] at h0; exact h0)⟩ ?_
      refine zfs ?_
      refine AW.seq ?_
      refine y9r [.no] True [(5, sV .i64 o q), (10, iV y), (61, iV (14 - ↑z))] [] 4 trivial ?_
      refine y9g [.no, .no] True [(5, sV .i64 o q), (10, iV y), (11, rV 4 0)] [(4, some (3, .ds [iD (14 - ↑z)]))] 5 trivial ?_
      refine y9g [.no, .w, .no] ((-9223372036854775808) ≤ ((14 - (z : Int)) - 1) ∧ ((14 - (z : Int)) - 1) ≤ 9223372036854775807) [(5, sV .i64 o q), (10, iV y), (11, rV 4 0)] [(4, some (3, .ds [iD ((14 - ↑z) - 1)]))] 5 ⟨by omega, by omega⟩ ?_
      exact Rd.of ⟨(((z + 1) : Nat), (y : Int)), ⟨zl10q8, (by first | exact bl_y hy zo (by assumption) zo rfl | exact bl_0 hy zo | exact bl_m hy (by assumption) | exact bl_o hy zo)⟩⟩ [(3, 4)] (P := (q9d (dI .i64 o)) ∧ (q9n q) ∧ (q9i y) ∧ (q9n 0) ∧ (([iD (14 - (((z + 1) : Nat) : Int))] : List D) = [iD ((14 - (z : Int)) - 1)])) zk ⟨rfl, rfl, rfl, rfl, (by first | rfl | with_reducible assumption | (rw [show (14 - ((z + 1 : Nat) : Int)) = 14 - (z : Int) - 1 by omega]))⟩ (show 14 - (z + 1) < 14 - z from zl10q7)
     ·by_cases hx22 : ((ocV (14 - ((z : Nat) : Int))) ≤ (ocV y))
      ·refine y9s [.no, .no, .b true, .no, .no, .no, .call [3] (bV false) [(0, some (3, .ds [iD (14 - (z : Int))]))] 1 [] none, .no, .no, .no, .no, .w, .call [] (iV (ocV (14 - (z : Int)))) [] 0 [] none, .no, .w, .call [] (iV (ocV y)) [] 0 [] none, .b true, .no] ((((0 : Int) < (q : Int))) ∧ (Fun 76 [.c (.d (dl o q)), .c (.fn 75 [(0, 0)])] (toG [(0, some (3, .ds [iD (14 - (z : Int))]))]) 1 (bV false) (toG [(0, some (3, .ds [iD (14 - (z : Int))]))]) 1) ∧ (0 ≤ (14 - (z : Int)) ∧ (14 - (z : Int)) ≤ 18446744073709551615) ∧ (_) ∧ (0 ≤ y ∧ y ≤ 18446744073709551615) ∧ (_) ∧ (((ocV (14 - (z : Int))) ≤ (ocV y)))) [(5, sV .i64 o q), (10, iV y), (11, rV 3 0), (59, bV true)] ⟨zo, (by have h0 := (Q_cf o q (14 - (z : Int)) zo zo); rw [hx21] at h0; exact h0), ⟨by omega, by omega⟩, (Q_oc (14 - (z : Int)) zo), ⟨by omega, by omega⟩, (Q_oc y zo), zo⟩ ?_
       refine zt ?_
       refine y9h [.no, .no] True [(5, sV .i64 o q), (10, iV (14 - ↑z)), (11, rV 3 0)] trivial ?_
       refine AW.seq ?_
       refine y9r [.no] True [(5, sV .i64 o q), (10, iV (14 - ↑z)), (61, iV (14 - ↑z))] [] 4 trivial ?_
       refine y9g [.no, .no] True [(5, sV .i64 o q), (10, iV (14 - ↑z)), (11, rV 4 0)] [(4, some (3, .ds [iD (14 - ↑z)]))] 5 trivial ?_
       refine y9g [.no, .w, .no] ((-9223372036854775808) ≤ ((14 - (z : Int)) - 1) ∧ ((14 - (z : Int)) - 1) ≤ 9223372036854775807) [(5, sV .i64 o q), (10, iV (14 - ↑z)), (11, rV 4 0)] [(4, some (3, .ds [iD ((14 - ↑z) - 1)]))] 5 ⟨by omega, by omega⟩ ?_
       exact Rd.of ⟨(((z + 1) : Nat), ((14 - (z : Int)) : Int)), ⟨zl10q8, (by first | exact bl_y hy zo (by assumption) zo rfl | exact bl_0 hy zo | exact bl_m hy (by assumption) | exact bl_o hy zo)⟩⟩ [(3, 4)] (P := (q9d (dI .i64 o)) ∧ (q9n q) ∧ (q9i (14 - (z : Int))) ∧ (q9n 0) ∧ (([iD (14 - (((z + 1) : Nat) : Int))] : List D) = [iD ((14 - (z : Int)) - 1)])) zk ⟨rfl, rfl, rfl, rfl, (by first | rfl | with_reducible assumption | (rw [show (14 - ((z + 1 : Nat) : Int)) = 14 - (z : Int) - 1 by omega]))⟩ (show 14 - (z + 1) < 14 - z from zl10q7)
      ·refine y9s [.no, .no, .b true, .no, .no, .no, .call [3] (bV false) [(0, some (3, .ds [iD (14 - (z : Int))]))] 1 [] none, .no, .no, .no, .no, .w, .call [] (iV (ocV (14 - (z : Int)))) [] 0 [] none, .no, .w, .call [] (iV (ocV y)) [] 0 [] none, .b false, .no] ((((0 : Int) < (q : Int))) ∧ (Fun 76 [.c (.d (dl o q)), .c (.fn 75 [(0, 0)])] (toG [(0, some (3, .ds [iD (14 - (z : Int))]))]) 1 (bV false) (toG [(0, some (3, .ds [iD (14 - (z : Int))]))]) 1) ∧ (0 ≤ (14 - (z : Int)) ∧ (14 - (z : Int)) ≤ 18446744073709551615) ∧ (_) ∧ (0 ≤ y ∧ y ≤ 18446744073709551615) ∧ (_) ∧ (¬ ((ocV (14 - (z : Int))) ≤ (ocV y)))) [(5, sV .i64 o q), (10, iV y), (11, rV 3 0), (59, bV false)] ⟨zo, (by have h0 := (Q_cf o q (14 - (z : Int)) zo zo); rw [hx21] at h0; exact h0), ⟨by omega, by omega⟩, (Q_oc (14 - (z : Int)) zo), ⟨by omega, by omega⟩, (Q_oc y zo), zo⟩ ?_
       refine zfs ?_
       refine AW.seq ?_
       refine y9r [.no] True [(5, sV .i64 o q), (10, iV y), (61, iV (14 - ↑z))] [] 4 trivial ?_
       refine y9g [.no, .no] True [(5, sV .i64 o q), (10, iV y), (11, rV 4 0)] [(4, some (3, .ds [iD (14 - ↑z)]))] 5 trivial ?_
       refine y9g [.no, .w, .no] ((-9223372036854775808) ≤ ((14 - (z : Int)) - 1) ∧ ((14 - (z : Int)) - 1) ≤ 9223372036854775807) [(5, sV .i64 o q), (10, iV y), (11, rV 4 0)] [(4, some (3, .ds [iD ((14 - ↑z) - 1)]))] 5 ⟨by omega, by omega⟩ ?_
       exact Rd.of ⟨(((z + 1) : Nat), (y : Int)), ⟨zl10q8, (by first | exact bl_y hy zo (by assumption) zo rfl | exact bl_0 hy zo | exact bl_m hy (by assumption) | exact bl_o hy zo)⟩⟩ [(3, 4)] (P := (q9d (dI .i64 o)) ∧ (q9n q) ∧ (q9i y) ∧ (q9n 0) ∧ (([iD (14 - (((z + 1) : Nat) : Int))] : List D) = [iD ((14 - (z : Int)) - 1)])) zk ⟨rfl, rfl, rfl, rfl, (by first | rfl | with_reducible assumption | (rw [show (14 - ((z + 1 : Nat) : Int)) = 14 - (z : Int) - 1 by omega]))⟩ (show 14 - (z + 1) < 14 - z from zl10q7)
    ·refine y9s (.no :: .no :: .b false :: nz9 4 []) (¬ ((0 : Int) < (q : Int))) [(5, sV .i64 o q), (10, iV y), (11, rV 3 0), (59, bV false)] zo ?_
     refine zfs ?_
     refine AW.seq ?_
     refine y9r [.no] True [(5, sV .i64 o q), (10, iV y), (61, iV (14 - ↑z))] [] 4 trivial ?_
     refine y9g [.no, .no] True [(5, sV .i64 o q), (10, iV y), (11, rV 4 0)] [(4, some (3, .ds [iD (14 - ↑z)]))] 5 trivial ?_
     refine y9g [.no, .w, .no] ((-9223372036854775808) ≤ ((14 - (z : Int)) - 1) ∧ ((14 - (z : Int)) - 1) ≤ 9223372036854775807) [(5, sV .i64 o q), (10, iV y), (11, rV 4 0)] [(4, some (3, .ds [iD ((14 - ↑z) - 1)]))] 5 ⟨by omega, by omega⟩ ?_
     exact Rd.of ⟨(((z + 1) : Nat), (y : Int)), ⟨zl10q8, (by first | exact bl_y hy zo (by assumption) zo rfl | exact bl_0 hy zo | exact bl_m hy (by assumption) | exact bl_o hy zo)⟩⟩ [(3, 4)] (P := (q9d (dI .i64 o)) ∧ (q9n q) ∧ (q9i y) ∧ (q9n 0) ∧ (([iD (14 - (((z + 1) : Nat) : Int))] : List D) = [iD ((14 - (z : Int)) - 1)])) zk ⟨rfl, rfl, rfl, rfl, (by first | rfl | with_reducible assumption | (rw [show (14 - ((z + 1 : Nat) : Int)) = 14 - (z : Int) - 1 by omega]))⟩ (show 14 - (z + 1) < 14 - z from zl10q7)
   ·refine y9r [.no, .b false] (¬ ((0 : Int) < (14 - (z : Int)))) [(5, sV .i64 o q), (10, iV y), (11, rV 3 0), (38, bV false)] [(3, some (3, .ds [iD (14 - ↑z)]))] 4 zo ?_
    refine zf ?_
    refine AW.exit ?_
    refine y9r [.no, .no] True [(4, iV y)] [] 4 trivial ?_
    refine AW.ret ?_
    exact EndP.of (.inr rfl) [] (P := (((blV a b) : Int) = y)) zk (by first | exact bl_c ho zo hq (by assumption) | exact bl_e ho zo hq (by assumption) hy zo)
end Go.Proofs.YtcfmjpnffembpaaGreat
