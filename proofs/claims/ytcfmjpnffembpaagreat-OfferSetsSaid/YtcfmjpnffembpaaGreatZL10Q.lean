/- What is to blame, of the code. No statement is proved here. -/
import Derived.Test.YtcfmjpnffembpaaGreatZL10N
namespace Go.Proofs.YtcfmjpnffembpaaGreat
open Go.ChangeShapes Go.WideShapes Go.ChangeAt Go.RowKit
open Bool renaming eq_false_or_eq_true → ka6
open List renaming drop → ka3, getD → ka1, length → ka0, length_append → ka9, length_cons → kb0, length_drop → kb5, length_map → kc0, length_nil → kb3, length_replicate → kb4, length_reverse → kb9, length_set → kc1, length_take → kb2
open Nat renaming le_of_ble_eq_true → ka4, mul_one → kc5
set_option linter.unusedVariables false
set_option linter.unusedSimpArgs false
/-! chapter 10: what is to blame -/
set_option maxHeartbeats 4000000
set_option maxRecDepth 100000
def uR (a b : Int) : Int := qI .and .i64 a b
def tI (k : Int) (r : List Int) (rn : Nat) (m : List (List Int)) (c : Nat) (s : List Int) (sn : Nat) (k2 : Int) (r2 : List Int) (rn2 : Nat) (m2 : List (List Int)) (s2 : List Int) (sn2 : Nat) : Int :=
 (if uR k k2 = 0 then 0 else 1) + (if qP (kB r rn) (kB r2 rn2) = 0 then 0 else 2) + (if ka0 (uP m m2 c) = 0 then 0 else 4) + (if qP (kB s sn) (kB s2 sn2) = 0 then 0 else 8)
def yT (k k2 : Int) : Int := if uR k k2 = 0 then 0 else 1
def oS (a : Int) (n : Nat) (b : Int) : Int := a + (if n = 0 then 0 else b)
theorem j6 (k k2 : Int) : (uR k k2 = 0 ∧ yT k k2 = 0) ∨ (¬ uR k k2 = 0 ∧ yT k k2 = 1) := by
 unfold yT; split
 ·exact .inl ⟨by assumption, rfl⟩
 ·exact .inr ⟨by assumption, rfl⟩
theorem lI (a : Int) (n : Nat) (b : Int) : (n = 0 ∧ oS a n b = a) ∨ (1 ≤ n ∧ oS a n b = a + b) := by
 unfold oS; split
 ·exact .inl ⟨by assumption, by omega⟩
 ·exact .inr ⟨by omega, rfl⟩
theorem u7x {a : Int} (h : 0 ≤ a ∧ a ≤ 1) : qI .or .i64 a 2 = a + 2 := by
 rcases (by omega : a = 0 ∨ a = 1) with rfl | rfl <;> decide
theorem u7w {a : Int} (h : 0 ≤ a ∧ a ≤ 3) : qI .or .i64 a 4 = a + 4 := by
 rcases (by omega : a = 0 ∨ a = 1 ∨ a = 2 ∨ a = 3) with rfl | rfl | rfl | rfl <;> decide
theorem u7v {a : Int} (h : 0 ≤ a ∧ a ≤ 7) : qI .or .i64 a 8 = a + 8 := by
 rcases (by omega : a = 0 ∨ a = 1 ∨ a = 2 ∨ a = 3 ∨ a = 4 ∨ a = 5 ∨ a = 6 ∨ a = 7) with rfl | rfl | rfl | rfl | rfl | rfl | rfl | rfl <;> decide
theorem k7n (k : Int) (r : List Int) (rn : Nat) (m : List (List Int)) (c : Nat) (s : List Int) (sn : Nat) (k2 : Int) (r2 : List Int) (rn2 : Nat) (m2 : List (List Int)) (s2 : List Int) (sn2 : Nat) : 0 ≤ tI k r rn m c s sn k2 r2 rn2 m2 s2 sn2 ∧ tI k r rn m c s sn k2 r2 rn2 m2 s2 sn2 ≤ 15 := by
 unfold tI; (repeat' split) <;> omega
def shE (xs ys : List Bx) (i j : Nat) : Int := tI (k9 xs i) (qF xs i) (qB xs i) (kY xs i) (ka0 (kY xs i)) (qG xs i) (qC xs i) (k9 ys j) (qF ys j) (qB ys j) (kY ys j) (qG ys j) (qC ys j)
def prS (xs ys : List Bx) : Nat → List Int
 | 0 => []
 | i + 1 => prS xs ys i ++ (List.range (ka0 ys)).map (shE xs ys i)
def prJ (xs ys : List Bx) (i j : Nat) : List Int := prS xs ys i ++ (List.range j).map (shE xs ys i)
theorem u4e {xs ys : List Bx} {i : Nat} {o : List Int} (h : prS xs ys i = o) : prJ xs ys i 0 = o := by
 unfold prJ; rw [h]; exact List.append_nil _
theorem u4c {xs ys : List Bx} {i j : Nat} {o : List Int} {x : Int} (h : prJ xs ys i j = o) (hx : x = shE xs ys i j) : prJ xs ys i (j + 1) = o ++ [x] := by
 subst h; subst hx
 unfold prJ; rw [List.range_succ, List.map_append, List.append_assoc]; rfl
theorem u4d {xs ys : List Bx} {i j : Nat} {o : List Int} (h : prJ xs ys i j = o) (hj : j = ka0 ys) : prS xs ys (i + 1) = o := by
 subst hj; exact h
def ctB (l : List Int) (n : Nat) (v : Int) : Bool := decide (0 ≤ q6 l v n)
def stB (d s : Int) : Bool := decide (uR d s = s)
def zF (l : List Int) (s : Int) : Nat → Int := tA fun j => stB (ka1 l j 0) s
theorem u4t {l : List Int} {s : Int} {k : Nat} (h : zF l s k = -1) (h2 : stB (ka1 l k 0) s = false) : zF l s (k + 1) = -1 := fT h h2
theorem u4u {l : List Int} {s : Int} {k : Nat} (h : zF l s k = -1) (h2 : stB (ka1 l k 0) s = true) {n : Nat} (hn : k < n) : zF l s n = (k : Int) := gY h h2 n hn
def mtB (l : List Int) (n : Nat) (s : Int) : Bool := decide (0 ≤ zF l s n)
def u7 (x : Int) : Int := x % 2 + x / 2 % 2 + x / 4 % 2 + x / 8 % 2
def wP (l : List Int) (n : Nat) : Nat → Int
 | 0 => 15
 | i + 1 => if 1 ≤ n ∧ mtB l n (14 - (i : Int)) = false ∧ u7 (14 - (i : Int)) ≤ u7 (wP l n i) then 14 - (i : Int) else wP l n i
theorem k1a (l : List Int) (n : Nat) : ∀ i, i ≤ 14 → 0 ≤ wP l n i ∧ wP l n i ≤ 15
 | 0, _ => ⟨(by decide : (0 : Int) ≤ 15), Int.le_refl 15⟩
 | i + 1, h => by
  have := k1a l n i (by omega)
  rw [wP]; split <;> omega
theorem u8z {l : List Int} {n i : Nat} {y x : Int} (h : wP l n i = y) (h1 : 1 ≤ n) (h2 : mtB l n (14 - (i : Int)) = false) (h3 : u7 (14 - (i : Int)) ≤ u7 y) (hx : x = 14 - (i : Int)) : wP l n (i + 1) = x := by
 subst h; rw [hx]; exact if_pos ⟨h1, h2, h3⟩
theorem u94 {l : List Int} {n i : Nat} {y : Int} (h : wP l n i = y) (h1 : ¬ 1 ≤ n) : wP l n (i + 1) = y := by
 subst h; exact if_neg fun e => h1 e.1
theorem u91 {l : List Int} {n i : Nat} {y : Int} (h : wP l n i = y) (h2 : mtB l n (14 - (i : Int)) = true) : wP l n (i + 1) = y := by
 subst h; exact if_neg fun e => by rw [h2] at e; cases e.2.1
theorem u90 {l : List Int} {n i : Nat} {y : Int} (h : wP l n i = y) (h3 : ¬ u7 (14 - (i : Int)) ≤ u7 y) : wP l n (i + 1) = y := by
 subst h; exact if_neg fun e => h3 e.2.2
def blP (l : List Int) : Int := if ctB l (ka0 l) 15 = true then 0 else wP l (ka0 l) 14
def lK (a b : List Bx) : Int := blP (prS (kH a) (kH b) (ka0 (kH a)))
theorem u93 {a b : List Bx} {o : List Int} {i n : Nat} (h : prS (kH a) (kH b) i = o) (hi : i = ka0 (kH a)) (hn : ka0 o = n) (hc : ctB o n 15 = true) : lK a b = 0 := by
 subst hi; subst hn
 unfold lK; rw [h]; exact if_pos hc
theorem u92 {a b : List Bx} {o : List Int} {i n : Nat} {y : Int} {z : Nat} (h : prS (kH a) (kH b) i = o) (hi : i = ka0 (kH a)) (hn : ka0 o = n) (hc : ctB o n 15 = false) (hy : wP o n z = y) (hz : z = 14) : lK a b = y := by
 subst hi; subst hn; subst hz
 unfold lK; rw [h, ← hy]; exact if_neg (by rw [hc]; decide)
theorem sF (a b : List Bx) : 0 ≤ lK a b ∧ lK a b ≤ 15 := by
 unfold lK blP; split
 ·decide
 ·exact k1a _ _ 14 (Nat.le_refl _)
theorem k6m (a : List Bx) : ka0 (kH a) ≤ 64 := by
 unfold kH; split
 ·rename_i h; exact (of_decide_eq_true h).1
 ·exact Nat.zero_le _
theorem c16 {x : Int} (h : 0 ≤ x ∧ x ≤ 15) {p : Int → Prop} (h0 : ∀ n : Nat, n < 16 → p (n : Int)) : p x := by
 have := h0 x.toNat (by omega)
 rw [show ((x.toNat : Nat) : Int) = x by omega] at this; exact this
def s8 (x : Int) : Int := x / 2 % 2 + 4 * (x / 8 % 2)
def s7 (x : Int) : Int := x % 2 + 4 * (x / 4 % 2)
def oJ (x : Int) : Int := x / 4 % 2 + x / 8 % 2
def oI (x : Int) : Int := x % 2 + x / 2 % 2
theorem u84 {x : Int} (h : 0 ≤ x ∧ x ≤ 15) : qI .and .u64 (x / 2) 6148914691236517205 = s8 x := c16 (p := fun x => qI .and .u64 (x / 2) 6148914691236517205 = s8 x) h (by decide)
theorem u83 {x : Int} (h : 0 ≤ x ∧ x ≤ 15) : qI .and .u64 x 6148914691236517205 = s7 x := c16 (p := fun x => qI .and .u64 x 6148914691236517205 = s7 x) h (by decide)
theorem u82 {x : Int} (h : 0 ≤ x ∧ x ≤ 15) : qI .and .u64 ((s8 x + s7 x) / 4) 3689348814741910323 = oJ x := c16 (p := fun x => qI .and .u64 ((s8 x + s7 x) / 4) 3689348814741910323 = oJ x) h (by decide)
theorem u81 {x : Int} (h : 0 ≤ x ∧ x ≤ 15) : qI .and .u64 (s8 x + s7 x) 3689348814741910323 = oI x := c16 (p := fun x => qI .and .u64 (s8 x + s7 x) 3689348814741910323 = oI x) h (by decide)
theorem u80 {x y : Int} (h : 0 ≤ x ∧ x ≤ 15) (hy : y = oJ x + oI x) : qI .and .u64 y 1085102592571150095 = u7 x := by
 rw [hy]; exact c16 (p := fun x => qI .and .u64 (oJ x + oI x) 1085102592571150095 = u7 x) h (by decide)
theorem u7z {x y : Int} (h : 0 ≤ x ∧ x ≤ 15) (hy : y = u7 x) : qI .and .i64 y 127 = u7 x := by
 rw [hy]; exact c16 (p := fun x => qI .and .i64 (u7 x) 127 = u7 x) h (by decide)
theorem u7y {x : Int} (h : 0 ≤ x ∧ x ≤ 15) : (0 ≤ s8 x ∧ s8 x ≤ 5) ∧ (0 ≤ s7 x ∧ s7 x ≤ 5) ∧ (0 ≤ oJ x ∧ oJ x ≤ 2) ∧ (0 ≤ oI x ∧ oI x ≤ 2) ∧ 0 ≤ u7 x ∧ u7 x ≤ 4 := by
 unfold s8 s7 oJ oI u7; omega
theorem eL {p : Prop} (h : p := by (simp only [qH, qE, uA, ka9, kb0, kb3, kb2, kb5, kb4, kc1, kc0, kb9, kc5] <;> omega)) : p := h
theorem xN {p : Prop} (h : p := by rw [List.drop_zero, kc5, List.take_of_length_le (by (simp only [qH, qE, uA, ka9, kb0, kb3, kb2, kb5, kb4, kc1, kc0, kb9, kc5] <;> omega))]) : p := h
theorem k2y (a b : List (List Int)) (n m : Nat) (hn : ka0 a = n) (hm : ka0 b = m) (h1 : n ≤ 1000000) (h2 : m ≤ 1000000) (hW : MsW a) (hV : MsW b) : Fun 86 [.c (.d (D.sl (kL a) n)), .c (.d (D.sl (kL b) m))] (kE []) 0 (qJ (kL (uP a b n)) (ka0 (uP a b n))) (kE []) 0 := by
 refine Fun.mk (n := 24) Tryz.func86 rfl rfl (ka4 rfl) ?_
 intro cx hcx
 refine kI [.no] True [(0, qJ (kL a) n), (1, qJ (kL b) m)] [] 0 trivial ?_
 refine kN [.no] True [(0, qJ (kL a) n), (1, qJ (kL b) m), (5, nV)] trivial ?_
 refine AW.seq ?_
 refine kN [.no, .no, .no] True [(1, qJ (kL b) m), (5, nV), (8, qJ (kL a) n), (9, uV n), (10, iV 0)] trivial ?_
 refine AW.block ?_
 refine AW.adoptS 5 1 23 rfl ?_
 refine kU 0 hcx (fun (x : {x : Nat × Nat × List (List Int) // match x with | (i, q, o) => (i ≤ n ∧ q ≤ i) ∧ (uP a b i = o) ∧ (ka0 o = q) ∧ (MsW o)}) => match x with | ⟨(i, q, o), _⟩ => (⟨[(1, qJ (kL b) m), (5, oV 1 0 q 1), (8, qJ (kL a) n), (9, uV n), (10, uV i)], [(1, some (23, .ds (kL o)))], 2⟩ : ES)) (fun x => match x with | ⟨(i, q, o), _⟩ => n - i) ⟨((0 : Nat), (0 : Nat), (([] : List (List Int)) : List (List Int))), ⟨zo, rfl, rfl, MsW.nil⟩⟩ [(1, 0)] (P := (kJ (kL b)) ∧ (kG m) ∧ (kG 0) ∧ (kG 0) ∧ (kJ (kL a)) ∧ (kG n) ∧ (kM (n : Int)) ∧ (kM 0) ∧ (((kL ([] : List (List Int))) : List D) = ([] : List D))) zk ⟨rfl, rfl, rfl, rfl, rfl, rfl, rfl, rfl, (by rfl)⟩ ?_
 rintro ⟨⟨i, q, o⟩, hinv0⟩
 obtain ⟨hi, ho, hq, hO⟩ : (i ≤ n ∧ q ≤ i) ∧ (uP a b i = o) ∧ (ka0 o = q) ∧ (MsW o) := hinv0
 refine qN (l := [(1, qJ (kL b) m), (5, oV 1 0 q 1), (8, qJ (kL a) n), (9, uV n), (10, uV i)]) (g := [(1, some (23, .ds (kL o)))]) (nx := 2) rfl rfl rfl ?_
 by_cases hx1 : (((i : Nat) : Int) < ((n : Nat) : Int))
 ·refine kI [.b true] (((i : Int) < (n : Int))) [(1, qJ (kL b) m), (5, oV 1 0 q 1), (8, qJ (kL a) n), (9, uV n), (10, uV i), (11, bV true)] [(1, some (23, .ds (kL o)))] 2 zo ?_
  refine AW.seq ?_
  refine yW ?_
  refine AW.seq ?_
  refine AW.block ?_
  have hx2 : ((ka0 (ka1 a i ([] : List Int))) ≤ 1000000) := MsW.at (kZ : MsW a) _
  refine kN [.n i, .d (dl (ka1 a i ([] : List Int)) (ka0 (ka1 a i ([] : List Int)))), .no] ((kM (i : Int)) ∧ (i < n) ∧ ((ka3 i (kL a))[0]? = some (dl (ka1 a i ([] : List Int)) (ka0 (ka1 a i ([] : List Int)))))) [(1, qJ (kL b) m), (5, oV 1 0 q 1), (7, sV .i64 (ka1 a i ([] : List Int)) (ka0 (ka1 a i ([] : List Int)))), (8, qJ (kL a) n), (9, uV n), (10, uV i)] ⟨rfl, zo, (yE _ _ zo)⟩ ?_
  rcases ka6 (d9 b (ka1 a i ([] : List Int))) with hx3 | hx3
  ·refine kN [.no, .no, .call [] (bV true) [] 0 [] none] (Fun 96 [.c (.d (D.sl (kL b) m)), .c (.d (dl (ka1 a i ([] : List Int)) (ka0 (ka1 a i ([] : List Int)))))] (kE []) 0 (bV true) (kE []) 0) [(1, qJ (kL b) m), (5, oV 1 0 q 1), (7, sV .i64 (ka1 a i ([] : List Int)) (ka0 (ka1 a i ([] : List Int)))), (8, qJ (kL a) n), (9, uV n), (10, uV i), (16, bV true)] (by have h0 := (i7 b m (ka1 a i ([] : List Int)) (ka0 (ka1 a i ([] : List Int))) zo rfl zo zo (kZ : MsW b)); rw [hx3] at h0; exact h0) ?_
   refine zt ?_
   refine aD [.no, .no, (.fz (.call [] (oV 0 0 (ka0 (ka1 a i ([] : List Int))) 1) [(0, some (3, .ds (dI .i64 (ka1 a i ([] : List Int)))))] 1 [] none)), .no, .ap none (q + 1) (kL (o ++ ([(ka1 a i ([] : List Int))] : List (List Int)))), .no] ((_) ∧ (((dI .i64 (ka1 a i ([] : List Int))) : List D).length = (ka0 (ka1 a i ([] : List Int))) * 1) ∧ ([dl (ka1 a i ([] : List Int)) (ka0 (ka1 a i ([] : List Int)))].length = 1 * 1) ∧ (((kL o) : List D).length = q * 1) ∧ ((q + 1) * 24 ≤ 140737488355328) ∧ (q + 1 = (q + 1)) ∧ (((kL o) : List D) ++ [dl (ka1 a i ([] : List Int)) (ka0 (ka1 a i ([] : List Int)))] = (kL (o ++ ([(ka1 a i ([] : List Int))] : List (List Int)))))) [(1, qJ (kL b) m), (5, oV 4 0 (q + 1) 1), (8, qJ (kL a) n), (9, uV n), (10, uV i)] [(4, some (23, .ds (kL (o ++ ([(ka1 a i ([] : List Int))] : List (List Int))))))] 5 ⟨(cU (ka1 a i ([] : List Int)) (ka0 (ka1 a i ([] : List Int))) rfl zo), eL, eL, eL, zo, zo, (iJ o (ka1 a i ([] : List Int)) (ka0 (ka1 a i ([] : List Int))) (by rfl))⟩ ?_
   refine uJ [.w, .no] (uZ ((i : Int) + 1)) [(1, qJ (kL b) m), (5, oV 4 0 (q + 1) 1), (8, qJ (kL a) n), (9, uV n), (10, iV (↑i + 1))] ⟨by omega, by omega⟩ ?_
   exact kX ⟨(((i + 1) : Nat), ((q + 1) : Nat), ((o ++ ([(ka1 a i ([] : List Int))] : List (List Int))) : List (List Int))), ⟨zo, (by exact u0n ho (by assumption)), (by (simp only [qH, qE, ka9, kb0, kb3] <;> omega)), (by exact MsW.snoc (by assumption) zo)⟩⟩ [(1, 4)] (P := (kJ (kL b)) ∧ (kG m) ∧ (kG 0) ∧ (kG (q + 1)) ∧ (kJ (kL a)) ∧ (kG n) ∧ (kM (n : Int)) ∧ (vX i) ∧ (kJ (kL (o ++ ([(ka1 a i ([] : List Int))] : List (List Int)))))) zk ⟨rfl, rfl, rfl, rfl, rfl, rfl, rfl, (by rfl), rfl⟩ (show n - (i + 1) < n - i from zo)
  ·refine kN [.no, .no, .call [] (bV false) [] 0 [] none] (Fun 96 [.c (.d (D.sl (kL b) m)), .c (.d (dl (ka1 a i ([] : List Int)) (ka0 (ka1 a i ([] : List Int)))))] (kE []) 0 (bV false) (kE []) 0) [(1, qJ (kL b) m), (5, oV 1 0 q 1), (7, sV .i64 (ka1 a i ([] : List Int)) (ka0 (ka1 a i ([] : List Int)))), (8, qJ (kL a) n), (9, uV n), (10, uV i), (16, bV false)] (by have h0 := (i7 b m (ka1 a i ([] : List Int)) (ka0 (ka1 a i ([] : List Int))) zo rfl zo zo (kZ : MsW b)); rw [hx3] at h0; exact h0) ?_
   refine q8 ?_
   refine uJ [.w, .no] (uZ ((i : Int) + 1)) [(1, qJ (kL b) m), (5, oV 1 0 q 1), (8, qJ (kL a) n), (9, uV n), (10, iV (↑i + 1))] ⟨by omega, by omega⟩ ?_
   exact kX ⟨(((i + 1) : Nat), (q : Nat), (o : List (List Int))), ⟨zo, (by exact u0o ho (by assumption)), zo, (by assumption)⟩⟩ [] (P := (kJ (kL b)) ∧ (kG m) ∧ (kG 0) ∧ (kG q) ∧ (kJ (kL a)) ∧ (kG n) ∧ (kM (n : Int)) ∧ (vX i) ∧ (kJ (kL o))) zk ⟨rfl, rfl, rfl, rfl, rfl, rfl, rfl, (by rfl), rfl⟩ (show n - (i + 1) < n - i from zo)
 ·refine kI [.b false] (¬ ((i : Int) < (n : Int))) [(1, qJ (kL b) m), (5, oV 1 0 q 1), (8, qJ (kL a) n), (9, uV n), (10, uV i), (11, bV false)] [(1, some (23, .ds (kL o)))] 2 zo ?_
  refine AW.seq ?_
  refine zf ?_
  refine AW.exit ?_
  refine kI [.no, .no] True [(4, oV 1 0 q 1)] [(1, some (23, .ds (kL o)))] 2 trivial ?_
  refine AW.freeze 1 (l' := [(4, qJ (kL o) q)]) (g' := []) rfl (FzS.cons rfl (.e (.c (@FzC.own 1 ((kL o) : List D) 0 q 1 true ((kL o) : List D) xN eL))) FzS.nil) FzG.nil ?_
  have hz1 : uP a b n = o := by have h9 := ho; rw [show i = n by omega] at h9; exact h9
  refine AW.ret ?_
  exact kC (.inr rfl) [] (P := (((kL (uP a b n)) : List D) = (kL o)) ∧ (((ka0 (uP a b n)) : Nat) = q)) zk ⟨(by (rw [hz1]; done)), (by (rw [hz1]; omega))⟩
abbrev cZ (k : Int) (r : List Int) (rn : Nat) (m : List (List Int)) (c : Nat) (s : List Int) (sn : Nat) : BC := .ds [iD k, D.sl (dI .i64 r) rn, D.sl (kL m) c, D.sl (dI .i64 s) sn]
abbrev cY (k2 : Int) (r2 : List Int) (rn2 : Nat) (m2 : List (List Int)) (c2 : Nat) (s2 : List Int) (sn2 : Nat) : BC := .ds [iD k2, D.sl (dI .i64 r2) rn2, D.sl (kL m2) c2, D.sl (dI .i64 s2) sn2]
theorem u9a (k : Int) (r : List Int) (rn : Nat) (m : List (List Int)) (c : Nat) (s : List Int) (sn : Nat) (k2 : Int) (r2 : List Int) (rn2 : Nat) (m2 : List (List Int)) (c2 : Nat) (s2 : List Int) (sn2 : Nat) (hr : ka0 r = rn * 2) (hs : ka0 s = sn * 2) (hc : ka0 m = c) (h1 : rn ≤ 1000000) (h2 : sn ≤ 1000000) (h3 : c ≤ 1000000) (hW : MsW m) (hr2 : ka0 r2 = rn2 * 2) (hs2 : ka0 s2 = sn2 * 2) (hc2 : ka0 m2 = c2) (h12 : rn2 ≤ 1000000) (h22 : sn2 ≤ 1000000) (h32 : c2 ≤ 1000000) (hW2 : MsW m2) : Fun 73 [.agg [iC k, .d (D.sl (dI .i64 r) rn), .d (D.sl (kL m) c), .d (D.sl (dI .i64 s) sn)], .agg [iC k2, .d (D.sl (dI .i64 r2) rn2), .d (D.sl (kL m2) c2), .d (D.sl (dI .i64 s2) sn2)]] (kE []) 0 (iV (tI k r rn m c s sn k2 r2 rn2 m2 s2 sn2)) (kE []) 0 := by
 refine Fun.mk (n := 44) Tryz.func73 rfl rfl (ka4 rfl) ?_
 intro cx hcx
 refine kI [.no, .no, .no] True [(2, rV 0 0), (3, rV 1 0)] [(0, some (59, (cZ k r rn m c s sn))), (1, some (59, (cY k2 r2 rn2 m2 c2 s2 sn2)))] 2 trivial ?_
 refine kN [.no] True [(2, rV 0 0), (3, rV 1 0), (5, iV 0)] trivial ?_
 refine gA hcx [(2, rV 0 0), (3, rV 1 0), (5, iV (yT k k2))] [(0, some (59, (cZ k r rn m c s sn))), (1, some (59, (cY k2 r2 rn2 m2 c2 s2 sn2)))] 2 ?_ ?_
 ·by_cases hx2 : ((uR k k2) ≠ 0)
  ·have hx3 : (uR k k2 = 0 ∧ yT k k2 = 0) ∨ (¬ uR k k2 = 0 ∧ yT k k2 = 1) := j6 _ _
   refine kI (kT 4 [.i (uR k k2), .b true]) ((qI .and .i64 k k2 = (uR k k2)) ∧ (((uR k k2) ≠ 0))) [(2, rV 0 0), (3, rV 1 0), (5, iV 0), (11, bV true)] [(0, some (59, (cZ k r rn m c s sn))), (1, some (59, (cY k2 r2 rn2 m2 c2 s2 sn2)))] 2 ⟨rfl, zo⟩ ?_
   refine zt ?_
   refine uJ [.no, .i 1, .no] (qI .or .i64 0 1 = 1) [(2, rV 0 0), (3, rV 1 0), (5, iV 1)] (by decide) ?_
   exact kX () [] (P := (kG 0) ∧ (kG 0) ∧ (((yT k k2) : Int) = 1) ∧ (kJ [iD k, dl r rn, D.sl (kL m) c, dl s sn]) ∧ (kJ [iD k2, dl r2 rn2, D.sl (kL m2) c2, dl s2 sn2])) zk ⟨rfl, rfl, zo, rfl, rfl⟩ True.intro
  ·have hx4 : (uR k k2 = 0 ∧ yT k k2 = 0) ∨ (¬ uR k k2 = 0 ∧ yT k k2 = 1) := j6 _ _
   refine kI (kT 4 [.i (uR k k2), .b false]) ((qI .and .i64 k k2 = (uR k k2)) ∧ (¬ ((uR k k2) ≠ 0))) [(2, rV 0 0), (3, rV 1 0), (5, iV 0), (11, bV false)] [(0, some (59, (cZ k r rn m c s sn))), (1, some (59, (cY k2 r2 rn2 m2 c2 s2 sn2)))] 2 ⟨rfl, zo⟩ ?_
   refine q8 ?_
   exact kX () [] (P := (kG 0) ∧ (kG 0) ∧ (((yT k k2) : Int) = 0) ∧ (kJ [iD k, dl r rn, D.sl (kL m) c, dl s sn]) ∧ (kJ [iD k2, dl r2 rn2, D.sl (kL m2) c2, dl s2 sn2])) zk ⟨rfl, rfl, zo, rfl, rfl⟩ True.intro
 ·refine gA hcx [(2, rV 0 0), (3, rV 1 0), (5, iV (oS (yT k k2) (qP (kB r rn) (kB r2 rn2)) 2))] [(0, some (59, (cZ k r rn m c s sn))), (1, some (59, (cY k2 r2 rn2 m2 c2 s2 sn2)))] 2 ?_ ?_
  ·by_cases hx9 : ((0 : Int) < (((qP (kB r rn) (kB r2 rn2)) : Nat) : Int))
   ·have hx10 : ((qP (kB r rn) (kB r2 rn2) : Nat) = 0 ∧ oS (yT k k2) (qP (kB r rn) (kB r2 rn2)) 2 = yT k k2) ∨ (1 ≤ qP (kB r rn) (kB r2 rn2) ∧ oS (yT k k2) (qP (kB r rn) (kB r2 rn2)) 2 = yT k k2 + 2) := lI _ _ _
    have hx11 : 0 ≤ yT k k2 ∧ yT k k2 ≤ 1 := (by have h9 := j6 k k2; omega)
    have hx12 : ((ka0 (uM (kB r rn) (kB r2 rn2))) = ((qP (kB r rn) (kB r2 rn2)) * 2)) := yM _ _
    have hx13 : ((qP (kB r rn) (kB r2 rn2)) ≤ 64) := a9 _ _
    refine kI (kT 4 [.call [] (.e (.agg [.d (dl (uM (kB r rn) (kB r2 rn2)) (qP (kB r rn) (kB r2 rn2)))])) [] 0 [] none, .no, .no, .b true]) ((_) ∧ (((0 : Int) < (qP (kB r rn) (kB r2 rn2) : Int)))) [(2, rV 0 0), (3, rV 1 0), (5, iV (yT k k2)), (21, bV true)] [(0, some (59, (cZ k r rn m c s sn))), (1, some (59, (cY k2 r2 rn2 m2 c2 s2 sn2)))] 2 ⟨(f7 r r2 rn rn2 zo zo zo zo), zo⟩ ?_
    refine zt ?_
    refine uJ [.no, .i ((yT k k2) + 2), .no] (qI .or .i64 (yT k k2) 2 = ((yT k k2) + 2)) [(2, rV 0 0), (3, rV 1 0), (5, iV ((yT k k2) + 2))] (u7x zo) ?_
    exact kX () [] (P := (kG 0) ∧ (kG 0) ∧ (((oS (yT k k2) (qP (kB r rn) (kB r2 rn2)) 2) : Int) = ((yT k k2) + 2)) ∧ (kJ [iD k, dl r rn, D.sl (kL m) c, dl s sn]) ∧ (kJ [iD k2, dl r2 rn2, D.sl (kL m2) c2, dl s2 sn2])) zk ⟨rfl, rfl, zo, rfl, rfl⟩ True.intro
   ·have hx14 : ((qP (kB r rn) (kB r2 rn2) : Nat) = 0 ∧ oS (yT k k2) (qP (kB r rn) (kB r2 rn2)) 2 = yT k k2) ∨ (1 ≤ qP (kB r rn) (kB r2 rn2) ∧ oS (yT k k2) (qP (kB r rn) (kB r2 rn2)) 2 = yT k k2 + 2) := lI _ _ _
    have hx15 : 0 ≤ yT k k2 ∧ yT k k2 ≤ 1 := (by have h9 := j6 k k2; omega)
    have hx16 : ((ka0 (uM (kB r rn) (kB r2 rn2))) = ((qP (kB r rn) (kB r2 rn2)) * 2)) := yM _ _
    have hx17 : ((qP (kB r rn) (kB r2 rn2)) ≤ 64) := a9 _ _
    refine kI (kT 4 [.call [] (.e (.agg [.d (dl (uM (kB r rn) (kB r2 rn2)) (qP (kB r rn) (kB r2 rn2)))])) [] 0 [] none, .no, .no, .b false]) ((_) ∧ (¬ ((0 : Int) < (qP (kB r rn) (kB r2 rn2) : Int)))) [(2, rV 0 0), (3, rV 1 0), (5, iV (yT k k2)), (21, bV false)] [(0, some (59, (cZ k r rn m c s sn))), (1, some (59, (cY k2 r2 rn2 m2 c2 s2 sn2)))] 2 ⟨(f7 r r2 rn rn2 zo zo zo zo), zo⟩ ?_
    refine q8 ?_
    exact kX () [] (P := (kG 0) ∧ (kG 0) ∧ (((oS (yT k k2) (qP (kB r rn) (kB r2 rn2)) 2) : Int) = (yT k k2)) ∧ (kJ [iD k, dl r rn, D.sl (kL m) c, dl s sn]) ∧ (kJ [iD k2, dl r2 rn2, D.sl (kL m2) c2, dl s2 sn2])) zk ⟨rfl, rfl, zo, rfl, rfl⟩ True.intro
  ·refine gA hcx [(2, rV 0 0), (3, rV 1 0), (5, iV (oS (oS (yT k k2) (qP (kB r rn) (kB r2 rn2)) 2) (ka0 (uP m m2 c)) 4))] [(0, some (59, (cZ k r rn m c s sn))), (1, some (59, (cY k2 r2 rn2 m2 c2 s2 sn2)))] 2 ?_ ?_
   ·by_cases hx21 : ((0 : Int) < (((ka0 (uP m m2 c)) : Nat) : Int))
    ·have hx22 : ((ka0 (uP m m2 c) : Nat) = 0 ∧ oS (oS (yT k k2) (qP (kB r rn) (kB r2 rn2)) 2) (ka0 (uP m m2 c)) 4 = oS (yT k k2) (qP (kB r rn) (kB r2 rn2)) 2) ∨ (1 ≤ ka0 (uP m m2 c) ∧ oS (oS (yT k k2) (qP (kB r rn) (kB r2 rn2)) 2) (ka0 (uP m m2 c)) 4 = oS (yT k k2) (qP (kB r rn) (kB r2 rn2)) 2 + 4) := lI _ _ _
     have hx23 : 0 ≤ oS (yT k k2) (qP (kB r rn) (kB r2 rn2)) 2 ∧ oS (yT k k2) (qP (kB r rn) (kB r2 rn2)) 2 ≤ 3 := (by have h9 := j6 k k2; have h8 := lI (yT k k2) (qP (kB r rn) (kB r2 rn2)) 2; omega)
     have hx24 : ((ka0 (uP m m2 c)) ≤ c) := aO m m2 c
     refine kI (kT 4 [.call [] (qJ (kL (uP m m2 c)) (ka0 (uP m m2 c))) [] 0 [] none, .no, .b true]) ((_) ∧ (((0 : Int) < (ka0 (uP m m2 c) : Int)))) [(2, rV 0 0), (3, rV 1 0), (5, iV (oS (yT k k2) (qP (kB r rn) (kB r2 rn2)) 2)), (30, bV true)] [(0, some (59, (cZ k r rn m c s sn))), (1, some (59, (cY k2 r2 rn2 m2 c2 s2 sn2)))] 2 ⟨(k2y m m2 c c2 zo zo zo zo (kZ : MsW m) (kZ : MsW m2)), zo⟩ ?_
     refine zt ?_
     refine uJ [.no, .i ((oS (yT k k2) (qP (kB r rn) (kB r2 rn2)) 2) + 4), .no] (qI .or .i64 (oS (yT k k2) (qP (kB r rn) (kB r2 rn2)) 2) 4 = ((oS (yT k k2) (qP (kB r rn) (kB r2 rn2)) 2) + 4)) [(2, rV 0 0), (3, rV 1 0), (5, iV ((oS (yT k k2) (qP (kB r rn) (kB r2 rn2)) 2) + 4))] (u7w zo) ?_
     exact kX () [] (P := (kG 0) ∧ (kG 0) ∧ (((oS (oS (yT k k2) (qP (kB r rn) (kB r2 rn2)) 2) (ka0 (uP m m2 c)) 4) : Int) = ((oS (yT k k2) (qP (kB r rn) (kB r2 rn2)) 2) + 4)) ∧ (kJ [iD k, dl r rn, D.sl (kL m) c, dl s sn]) ∧ (kJ [iD k2, dl r2 rn2, D.sl (kL m2) c2, dl s2 sn2])) zk ⟨rfl, rfl, zo, rfl, rfl⟩ True.intro
    ·have hx25 : ((ka0 (uP m m2 c) : Nat) = 0 ∧ oS (oS (yT k k2) (qP (kB r rn) (kB r2 rn2)) 2) (ka0 (uP m m2 c)) 4 = oS (yT k k2) (qP (kB r rn) (kB r2 rn2)) 2) ∨ (1 ≤ ka0 (uP m m2 c) ∧ oS (oS (yT k k2) (qP (kB r rn) (kB r2 rn2)) 2) (ka0 (uP m m2 c)) 4 = oS (yT k k2) (qP (kB r rn) (kB r2 rn2)) 2 + 4) := lI _ _ _
     have hx26 : 0 ≤ oS (yT k k2) (qP (kB r rn) (kB r2 rn2)) 2 ∧ oS (yT k k2) (qP (kB r rn) (kB r2 rn2)) 2 ≤ 3 := (by have h9 := j6 k k2; have h8 := lI (yT k k2) (qP (kB r rn) (kB r2 rn2)) 2; omega)
     have hx27 : ((ka0 (uP m m2 c)) ≤ c) := aO m m2 c
     refine kI (kT 4 [.call [] (qJ (kL (uP m m2 c)) (ka0 (uP m m2 c))) [] 0 [] none, .no, .b false]) ((_) ∧ (¬ ((0 : Int) < (ka0 (uP m m2 c) : Int)))) [(2, rV 0 0), (3, rV 1 0), (5, iV (oS (yT k k2) (qP (kB r rn) (kB r2 rn2)) 2)), (30, bV false)] [(0, some (59, (cZ k r rn m c s sn))), (1, some (59, (cY k2 r2 rn2 m2 c2 s2 sn2)))] 2 ⟨(k2y m m2 c c2 zo zo zo zo (kZ : MsW m) (kZ : MsW m2)), zo⟩ ?_
     refine q8 ?_
     exact kX () [] (P := (kG 0) ∧ (kG 0) ∧ (((oS (oS (yT k k2) (qP (kB r rn) (kB r2 rn2)) 2) (ka0 (uP m m2 c)) 4) : Int) = (oS (yT k k2) (qP (kB r rn) (kB r2 rn2)) 2)) ∧ (kJ [iD k, dl r rn, D.sl (kL m) c, dl s sn]) ∧ (kJ [iD k2, dl r2 rn2, D.sl (kL m2) c2, dl s2 sn2])) zk ⟨rfl, rfl, zo, rfl, rfl⟩ True.intro
   ·refine gA hcx [(5, iV (oS (oS (oS (yT k k2) (qP (kB r rn) (kB r2 rn2)) 2) (ka0 (uP m m2 c)) 4) (qP (kB s sn) (kB s2 sn2)) 8))] [] 2 ?_ ?_
    ·by_cases hx32 : ((0 : Int) < (((qP (kB s sn) (kB s2 sn2)) : Nat) : Int))
     ·have hx33 : ((qP (kB s sn) (kB s2 sn2) : Nat) = 0 ∧ oS (oS (oS (yT k k2) (qP (kB r rn) (kB r2 rn2)) 2) (ka0 (uP m m2 c)) 4) (qP (kB s sn) (kB s2 sn2)) 8 = oS (oS (yT k k2) (qP (kB r rn) (kB r2 rn2)) 2) (ka0 (uP m m2 c)) 4) ∨ (1 ≤ qP (kB s sn) (kB s2 sn2) ∧ oS (oS (oS (yT k k2) (qP (kB r rn) (kB r2 rn2)) 2) (ka0 (uP m m2 c)) 4) (qP (kB s sn) (kB s2 sn2)) 8 = oS (oS (yT k k2) (qP (kB r rn) (kB r2 rn2)) 2) (ka0 (uP m m2 c)) 4 + 8) := lI _ _ _
      have hx34 : 0 ≤ oS (oS (yT k k2) (qP (kB r rn) (kB r2 rn2)) 2) (ka0 (uP m m2 c)) 4 ∧ oS (oS (yT k k2) (qP (kB r rn) (kB r2 rn2)) 2) (ka0 (uP m m2 c)) 4 ≤ 7 := (by have h9 := j6 k k2; have h8 := lI (yT k k2) (qP (kB r rn) (kB r2 rn2)) 2; have h7 := lI (oS (yT k k2) (qP (kB r rn) (kB r2 rn2)) 2) (ka0 (uP m m2 c)) 4; omega)
      have hx35 : ((ka0 (uM (kB s sn) (kB s2 sn2))) = ((qP (kB s sn) (kB s2 sn2)) * 2)) := yM _ _
      have hx36 : ((qP (kB s sn) (kB s2 sn2)) ≤ 64) := a9 _ _
      refine kI (kT 4 [.call [] (.e (.agg [.d (dl (uM (kB s sn) (kB s2 sn2)) (qP (kB s sn) (kB s2 sn2)))])) [] 0 [] none, .no, .no, .b true]) ((_) ∧ (((0 : Int) < (qP (kB s sn) (kB s2 sn2) : Int)))) [(5, iV (oS (oS (yT k k2) (qP (kB r rn) (kB r2 rn2)) 2) (ka0 (uP m m2 c)) 4)), (40, bV true)] [] 2 ⟨(f7 s s2 sn sn2 zo zo zo zo), zo⟩ ?_
      refine zt ?_
      refine uJ [.no, .i ((oS (oS (yT k k2) (qP (kB r rn) (kB r2 rn2)) 2) (ka0 (uP m m2 c)) 4) + 8), .no] (qI .or .i64 (oS (oS (yT k k2) (qP (kB r rn) (kB r2 rn2)) 2) (ka0 (uP m m2 c)) 4) 8 = ((oS (oS (yT k k2) (qP (kB r rn) (kB r2 rn2)) 2) (ka0 (uP m m2 c)) 4) + 8)) [(5, iV ((oS (oS (yT k k2) (qP (kB r rn) (kB r2 rn2)) 2) (ka0 (uP m m2 c)) 4) + 8))] (u7v zo) ?_
      exact kX () [] (P := (((oS (oS (oS (yT k k2) (qP (kB r rn) (kB r2 rn2)) 2) (ka0 (uP m m2 c)) 4) (qP (kB s sn) (kB s2 sn2)) 8) : Int) = ((oS (oS (yT k k2) (qP (kB r rn) (kB r2 rn2)) 2) (ka0 (uP m m2 c)) 4) + 8))) zk zo True.intro
     ·have hx37 : ((qP (kB s sn) (kB s2 sn2) : Nat) = 0 ∧ oS (oS (oS (yT k k2) (qP (kB r rn) (kB r2 rn2)) 2) (ka0 (uP m m2 c)) 4) (qP (kB s sn) (kB s2 sn2)) 8 = oS (oS (yT k k2) (qP (kB r rn) (kB r2 rn2)) 2) (ka0 (uP m m2 c)) 4) ∨ (1 ≤ qP (kB s sn) (kB s2 sn2) ∧ oS (oS (oS (yT k k2) (qP (kB r rn) (kB r2 rn2)) 2) (ka0 (uP m m2 c)) 4) (qP (kB s sn) (kB s2 sn2)) 8 = oS (oS (yT k k2) (qP (kB r rn) (kB r2 rn2)) 2) (ka0 (uP m m2 c)) 4 + 8) := lI _ _ _
      have hx38 : 0 ≤ oS (oS (yT k k2) (qP (kB r rn) (kB r2 rn2)) 2) (ka0 (uP m m2 c)) 4 ∧ oS (oS (yT k k2) (qP (kB r rn) (kB r2 rn2)) 2) (ka0 (uP m m2 c)) 4 ≤ 7 := (by have h9 := j6 k k2; have h8 := lI (yT k k2) (qP (kB r rn) (kB r2 rn2)) 2; have h7 := lI (oS (yT k k2) (qP (kB r rn) (kB r2 rn2)) 2) (ka0 (uP m m2 c)) 4; omega)
      have hx39 : ((ka0 (uM (kB s sn) (kB s2 sn2))) = ((qP (kB s sn) (kB s2 sn2)) * 2)) := yM _ _
      have hx40 : ((qP (kB s sn) (kB s2 sn2)) ≤ 64) := a9 _ _
      refine kI (kT 4 [.call [] (.e (.agg [.d (dl (uM (kB s sn) (kB s2 sn2)) (qP (kB s sn) (kB s2 sn2)))])) [] 0 [] none, .no, .no, .b false]) ((_) ∧ (¬ ((0 : Int) < (qP (kB s sn) (kB s2 sn2) : Int)))) [(5, iV (oS (oS (yT k k2) (qP (kB r rn) (kB r2 rn2)) 2) (ka0 (uP m m2 c)) 4)), (40, bV false)] [] 2 ⟨(f7 s s2 sn sn2 zo zo zo zo), zo⟩ ?_
      refine q8 ?_
      exact kX () [] (P := (((oS (oS (oS (yT k k2) (qP (kB r rn) (kB r2 rn2)) 2) (ka0 (uP m m2 c)) 4) (qP (kB s sn) (kB s2 sn2)) 8) : Int) = (oS (oS (yT k k2) (qP (kB r rn) (kB r2 rn2)) 2) (ka0 (uP m m2 c)) 4))) zk zo True.intro
    ·refine kI [.no, .no] True [(4, iV (oS (oS (oS (yT k k2) (qP (kB r rn) (kB r2 rn2)) 2) (ka0 (uP m m2 c)) 4) (qP (kB s sn) (kB s2 sn2)) 8))] [] 2 trivial ?_
     refine AW.ret ?_
     exact kC (.inr rfl) [] (P := (((tI k r rn m c s sn k2 r2 rn2 m2 s2 sn2) : Int) = (oS (oS (oS (yT k k2) (qP (kB r rn) (kB r2 rn2)) 2) (ka0 (uP m m2 c)) 4) (qP (kB s sn) (kB s2 sn2)) 8))) zk (by rfl)
theorem u6w (l : List Int) (n : Nat) (v : Int) (hn : ka0 l = n) (h1 : n ≤ 1000000) : Fun 74 [.c (.d (D.sl (dI .i64 l) n)), iE v] (kE []) 0 (qS (D.lit (.bool (ctB l n v)))) (kE []) 0 := by
 refine Fun.mk (n := 9) Tryz.func74 rfl rfl (ka4 rfl) ?_
 intro cx hcx
 refine kI [.no] True [(0, sV .i64 l n), (1, iV v)] [] 0 trivial ?_
 by_cases hx2 : ((0 : Int) ≤ (q6 l v n))
 ·have hx3 : ((((-1) : Int) ≤ (q6 l v n)) ∧ ((q6 l v n) < ((n : Nat) : Int))) := vI l v n
  refine kN [.no, .no, .call [] (iV (q6 l v n)) [] 0 [] none, .b true, .no] ((_) ∧ (((0 : Int) ≤ (q6 l v n)))) [(4, bV true)] ⟨(nF l n v zo zo), zo⟩ ?_
  refine AW.ret ?_
  exact kC (.inr rfl) [] (P := ((ctB l n v) = true)) zk (by exact decide_eq_true zo)
 ·have hx4 : ((((-1) : Int) ≤ (q6 l v n)) ∧ ((q6 l v n) < ((n : Nat) : Int))) := vI l v n
  refine kN [.no, .no, .call [] (iV (q6 l v n)) [] 0 [] none, .b false, .no] ((_) ∧ (¬ ((0 : Int) ≤ (q6 l v n)))) [(4, bV false)] ⟨(nF l n v zo zo), zo⟩ ?_
  refine AW.ret ?_
  exact kC (.inr rfl) [] (P := ((ctB l n v) = false)) zk (by exact decide_eq_false zo)
theorem u11 (d s : Int)  : Fun 75 [iE d, .c (.ptr 0 0)] (kE [(0, some (3, .ds [iD s]))]) 1 (qS (D.lit (.bool (stB d s)))) (kE [(0, some (3, .ds [iD s]))]) 1 := by
 refine Fun.mk (n := 9) Tryz.func75 rfl rfl (ka4 rfl) ?_
 intro cx hcx
 refine kI [.no] True [(0, iV d), (1, rV 0 0)] [(0, some (3, .ds [iD s]))] 1 trivial ?_
 by_cases hx1 : ((uR d s) = s)
 ·refine kN [.no, .no, .i (uR d s), .no, .b true, .no] ((qI .and .i64 d s = (uR d s)) ∧ (((uR d s) = s))) [(3, bV true)] ⟨rfl, zo⟩ ?_
  refine AW.ret ?_
  exact kC (.inr rfl) [] (P := ((stB d s) = true) ∧ (kJ [iD s])) zk ⟨(by exact decide_eq_true zo), rfl⟩
 ·refine kN [.no, .no, .i (uR d s), .no, .b false, .no] ((qI .and .i64 d s = (uR d s)) ∧ (¬ ((uR d s) = s))) [(3, bV false)] ⟨rfl, zo⟩ ?_
  refine AW.ret ?_
  exact kC (.inr rfl) [] (P := ((stB d s) = false) ∧ (kJ [iD s])) zk ⟨(by exact decide_eq_false zo), rfl⟩
theorem u10 (l : List Int) (n : Nat) (s : Int) (hn : ka0 l = n) (h1 : n ≤ 1000000) : Fun 119 [.c (.d (D.sl (dI .i64 l) n)), .c (.fn 75 [(0, 0)])] (kE [(0, some (3, .ds [iD s]))]) 1 (iV (zF l s n)) (kE [(0, some (3, .ds [iD s]))]) 1 := by
 refine Fun.mk (n := 19) Tryz.func119 rfl rfl (ka4 rfl) ?_
 intro cx hcx
 refine kI [.no] True [(0, sV .i64 l n), (1, .e (.c (.fn 75 [(0, 0)])))] [(0, some (3, .ds [iD s]))] 1 trivial ?_
 refine AW.seq ?_
 refine kN [.no, .no, .no] True [(0, sV .i64 l n), (1, .e (.c (.fn 75 [(0, 0)]))), (7, uV n), (8, iV 0)] trivial ?_
 refine AW.block ?_
 refine kU 1 hcx (fun (x : {x : Nat // match x with | k => (k ≤ n) ∧ (zF l s k = -1)}) => match x with | ⟨k, _⟩ => (⟨[(0, sV .i64 l n), (1, .e (.c (.fn 75 [(0, 0)]))), (7, uV n), (8, uV k)], [(0, some (3, .ds [iD s]))], 1⟩ : ES)) (fun x => match x with | ⟨k, _⟩ => n - k) ⟨(0 : Nat), ⟨zo, rfl⟩⟩ [] (P := (kJ (dI .i64 l)) ∧ (kG n) ∧ (kM (n : Int)) ∧ (kM 0) ∧ (kJ [iD s])) zk ⟨rfl, rfl, rfl, rfl, rfl⟩ ?_
 rintro ⟨k, hinv0⟩
 obtain ⟨hk, hi⟩ : (k ≤ n) ∧ (zF l s k = -1) := hinv0
 refine qN (l := [(0, sV .i64 l n), (1, .e (.c (.fn 75 [(0, 0)]))), (7, uV n), (8, uV k)]) (g := [(0, some (3, .ds [iD s]))]) (nx := 1) rfl rfl rfl ?_
 by_cases hx1 : (((k : Nat) : Int) < ((n : Nat) : Int))
 ·refine kI [.b true] (((k : Int) < (n : Int))) [(0, sV .i64 l n), (1, .e (.c (.fn 75 [(0, 0)]))), (7, uV n), (8, uV k), (9, bV true)] [(0, some (3, .ds [iD s]))] 1 zo ?_
  refine AW.seq ?_
  refine yW ?_
  refine AW.seq ?_
  refine AW.block ?_
  refine kN [.no, .no] True [(0, sV .i64 l n), (1, .e (.c (.fn 75 [(0, 0)]))), (5, uV k), (7, uV n), (8, uV k)] trivial ?_
  rcases ka6 (stB (ka1 l k 0) s) with hx2 | hx2
  ·refine kN [.no, .no, .no, .n k, .d (D.lit (.int .i64 (ka1 l k 0))), .call [0] (bV true) [(0, some (3, .ds [iD s]))] 1 [] none] ((kM (k : Int)) ∧ (k < n) ∧ ((ka3 k (dI .i64 l))[0]? = some (D.lit (.int .i64 (ka1 l k 0)))) ∧ (Fun 75 [iE (ka1 l k 0), .c (.ptr 0 0)] (kE [(0, some (3, .ds [iD s]))]) 1 (bV true) (kE [(0, some (3, .ds [iD s]))]) 1)) [(0, sV .i64 l n), (1, .e (.c (.fn 75 [(0, 0)]))), (5, uV k), (7, uV n), (8, uV k), (16, bV true)] ⟨rfl, zo, (uI _ _ _ zo), (by have h0 := (u11 (ka1 l k 0) s); rw [hx2] at h0; exact h0)⟩ ?_
   refine zt ?_
   refine kN [.no, .no] True [(4, uV k)] trivial ?_
   refine AW.ret ?_
   exact kC (.inr rfl) [] (P := (((zF l s n) : Int) = (k : Int)) ∧ (kJ [iD s])) zk ⟨(by exact u4u hi (by assumption) zo), rfl⟩
  ·refine kN [.no, .no, .no, .n k, .d (D.lit (.int .i64 (ka1 l k 0))), .call [0] (bV false) [(0, some (3, .ds [iD s]))] 1 [] none] ((kM (k : Int)) ∧ (k < n) ∧ ((ka3 k (dI .i64 l))[0]? = some (D.lit (.int .i64 (ka1 l k 0)))) ∧ (Fun 75 [iE (ka1 l k 0), .c (.ptr 0 0)] (kE [(0, some (3, .ds [iD s]))]) 1 (bV false) (kE [(0, some (3, .ds [iD s]))]) 1)) [(0, sV .i64 l n), (1, .e (.c (.fn 75 [(0, 0)]))), (5, uV k), (7, uV n), (8, uV k), (16, bV false)] ⟨rfl, zo, (uI _ _ _ zo), (by have h0 := (u11 (ka1 l k 0) s); rw [hx2] at h0; exact h0)⟩ ?_
   refine q8 ?_
   refine uJ [.w, .no] (uZ ((k : Int) + 1)) [(0, sV .i64 l n), (1, .e (.c (.fn 75 [(0, 0)]))), (7, uV n), (8, iV (↑k + 1))] ⟨by omega, by omega⟩ ?_
   exact kX ⟨((k + 1) : Nat), ⟨zo, (u4t hi (by assumption))⟩⟩ [] (P := (kJ (dI .i64 l)) ∧ (kG n) ∧ (kM (n : Int)) ∧ (vX k) ∧ (kJ [iD s])) zk ⟨rfl, rfl, rfl, (by rfl), rfl⟩ (show n - (k + 1) < n - k from zo)
 ·refine kI [.b false] (¬ ((k : Int) < (n : Int))) [(0, sV .i64 l n), (1, .e (.c (.fn 75 [(0, 0)]))), (7, uV n), (8, uV k), (9, bV false)] [(0, some (3, .ds [iD s]))] 1 zo ?_
  refine AW.seq ?_
  refine zf ?_
  refine AW.exit ?_
  refine kI [.no] True [(4, iV (-1))] [(0, some (3, .ds [iD s]))] 1 trivial ?_
  refine AW.ret ?_
  exact kC (.inr rfl) [] (P := (((zF l s n) : Int) = (-1)) ∧ (kJ [iD s])) zk ⟨(by (rw [show n = k by omega]; exact hi)), rfl⟩
theorem u3d (l : List Int) (n : Nat) (s : Int) (hn : ka0 l = n) (h1 : n ≤ 1000000) : Fun 76 [.c (.d (D.sl (dI .i64 l) n)), .c (.fn 75 [(0, 0)])] (kE [(0, some (3, .ds [iD s]))]) 1 (qS (D.lit (.bool (mtB l n s)))) (kE [(0, some (3, .ds [iD s]))]) 1 := by
 refine Fun.mk (n := 9) Tryz.func76 rfl rfl (ka4 rfl) ?_
 intro cx hcx
 refine kI [.no] True [(0, sV .i64 l n), (1, .e (.c (.fn 75 [(0, 0)])))] [(0, some (3, .ds [iD s]))] 1 trivial ?_
 by_cases hx1 : ((0 : Int) ≤ (zF l s n))
 ·refine kN [.no, .no, .call [0] (iV (zF l s n)) [(0, some (3, .ds [iD s]))] 1 [] none, .b true, .no] ((_) ∧ (((0 : Int) ≤ (zF l s n)))) [(4, bV true)] ⟨(u10 l n s zo zo), zo⟩ ?_
  refine AW.ret ?_
  exact kC (.inr rfl) [] (P := ((mtB l n s) = true) ∧ (kJ [iD s])) zk ⟨(by exact decide_eq_true zo), rfl⟩
 ·refine kN [.no, .no, .call [0] (iV (zF l s n)) [(0, some (3, .ds [iD s]))] 1 [] none, .b false, .no] ((_) ∧ (¬ ((0 : Int) ≤ (zF l s n)))) [(4, bV false)] ⟨(u10 l n s zo zo), zo⟩ ?_
  refine AW.ret ?_
  exact kC (.inr rfl) [] (P := ((mtB l n s) = false) ∧ (kJ [iD s])) zk ⟨(by exact decide_eq_false zo), rfl⟩
theorem u3c (x : Int) (h1 : 0 ≤ x ∧ x ≤ 15) : Fun 121 [.c (.d (D.lit (.int .u64 x)))] (kE []) 0 (iV (u7 x)) (kE []) 0 := by
 have hxr : (0 ≤ s8 x ∧ s8 x ≤ 5) ∧ (0 ≤ s7 x ∧ s7 x ≤ 5) ∧ (0 ≤ oJ x ∧ oJ x ≤ 2) ∧ (0 ≤ oI x ∧ oI x ≤ 2) ∧ 0 ≤ u7 x ∧ u7 x ≤ 4 := u7y h1
 refine Fun.mk (n := 35) Tryz.func121 rfl rfl (ka4 rfl) ?_
 intro cx hcx
 refine kI [.no] True [(0, qS (D.lit (.int .u64 x)))] [] 0 trivial ?_
 refine kN [.no, .n 1, .i (s8 x), .no, .i (s7 x), .w, .no] ((kM 1) ∧ ((1 : Nat) ≤ 64) ∧ (qI .and .u64 (x / 2) 6148914691236517205 = (s8 x)) ∧ (qI .and .u64 x 6148914691236517205 = (s7 x)) ∧ (0 ≤ ((s8 x) + (s7 x)) ∧ ((s8 x) + (s7 x)) ≤ 18446744073709551615)) [(0, qS (D.lit (.int .u64 ((s8 x) + (s7 x)))))] ⟨rfl, zo, (u84 h1), (u83 h1), ⟨by omega, by omega⟩⟩ ?_
 refine kN [.no, .n 2, .i (oJ x), .no, .i (oI x), .w, .no] ((kM 2) ∧ ((2 : Nat) ≤ 64) ∧ (qI .and .u64 (((s8 x) + (s7 x)) / 4) 3689348814741910323 = (oJ x)) ∧ (qI .and .u64 ((s8 x) + (s7 x)) 3689348814741910323 = (oI x)) ∧ (0 ≤ ((oJ x) + (oI x)) ∧ ((oJ x) + (oI x)) ≤ 18446744073709551615)) [(0, qS (D.lit (.int .u64 ((oJ x) + (oI x)))))] ⟨rfl, zo, (u82 h1), (u81 h1), ⟨by omega, by omega⟩⟩ ?_
 refine kN [.no, .n 4, .no, .w, .i (u7 x), .no] ((kM 4) ∧ ((4 : Nat) ≤ 64) ∧ (0 ≤ ((((oJ x) + (oI x)) / 16) + ((oJ x) + (oI x))) ∧ ((((oJ x) + (oI x)) / 16) + ((oJ x) + (oI x))) ≤ 18446744073709551615) ∧ (qI .and .u64 ((((oJ x) + (oI x)) / 16) + ((oJ x) + (oI x))) 1085102592571150095 = (u7 x))) [(0, qS (D.lit (.int .u64 (u7 x))))] ⟨rfl, zo, ⟨by omega, by omega⟩, (u80 h1 zo)⟩ ?_
 refine kN [.no, .no, .n 8, .w, .no] ((kM 8) ∧ ((8 : Nat) ≤ 64) ∧ (0 ≤ ((u7 x) + ((u7 x) / 256)) ∧ ((u7 x) + ((u7 x) / 256)) ≤ 18446744073709551615)) [(0, qS (D.lit (.int .u64 ((u7 x) + ((u7 x) / 256)))))] ⟨rfl, zo, ⟨by omega, by omega⟩⟩ ?_
 refine kN [.no, .no, .n 16, .w, .no] ((kM 16) ∧ ((16 : Nat) ≤ 64) ∧ (0 ≤ (((u7 x) + ((u7 x) / 256)) + (((u7 x) + ((u7 x) / 256)) / 65536)) ∧ (((u7 x) + ((u7 x) / 256)) + (((u7 x) + ((u7 x) / 256)) / 65536)) ≤ 18446744073709551615)) [(0, qS (D.lit (.int .u64 (((u7 x) + ((u7 x) / 256)) + (((u7 x) + ((u7 x) / 256)) / 65536)))))] ⟨rfl, zo, ⟨by omega, by omega⟩⟩ ?_
 refine kN [.no, .no, .n 32, .w, .no] ((kM 32) ∧ ((32 : Nat) ≤ 64) ∧ (0 ≤ ((((u7 x) + ((u7 x) / 256)) + (((u7 x) + ((u7 x) / 256)) / 65536)) + ((((u7 x) + ((u7 x) / 256)) + (((u7 x) + ((u7 x) / 256)) / 65536)) / 4294967296)) ∧ ((((u7 x) + ((u7 x) / 256)) + (((u7 x) + ((u7 x) / 256)) / 65536)) + ((((u7 x) + ((u7 x) / 256)) + (((u7 x) + ((u7 x) / 256)) / 65536)) / 4294967296)) ≤ 18446744073709551615)) [(0, qS (D.lit (.int .u64 ((((u7 x) + ((u7 x) / 256)) + (((u7 x) + ((u7 x) / 256)) / 65536)) + ((((u7 x) + ((u7 x) / 256)) + (((u7 x) + ((u7 x) / 256)) / 65536)) / 4294967296)))))] ⟨rfl, zo, ⟨by omega, by omega⟩⟩ ?_
 refine kN [.no, .w, .i (u7 x), .no] (((-9223372036854775808) ≤ ((((u7 x) + ((u7 x) / 256)) + (((u7 x) + ((u7 x) / 256)) / 65536)) + ((((u7 x) + ((u7 x) / 256)) + (((u7 x) + ((u7 x) / 256)) / 65536)) / 4294967296)) ∧ ((((u7 x) + ((u7 x) / 256)) + (((u7 x) + ((u7 x) / 256)) / 65536)) + ((((u7 x) + ((u7 x) / 256)) + (((u7 x) + ((u7 x) / 256)) / 65536)) / 4294967296)) ≤ 9223372036854775807) ∧ (qI .and .i64 ((((u7 x) + ((u7 x) / 256)) + (((u7 x) + ((u7 x) / 256)) / 65536)) + ((((u7 x) + ((u7 x) / 256)) + (((u7 x) + ((u7 x) / 256)) / 65536)) / 4294967296)) 127 = (u7 x))) [(2, iV (u7 x))] ⟨⟨by omega, by omega⟩, (u7z h1 zo)⟩ ?_
 refine AW.ret ?_
 exact kC (.inr rfl) [] (P := (kM (u7 x))) zk rfl
theorem k9l (x : Int) (h1 : 0 ≤ x ∧ x ≤ 15) : Fun 77 [.c (.d (D.lit (.int .u64 x)))] (kE []) 0 (iV (u7 x)) (kE []) 0 := by
 refine Fun.mk (n := 8) Tryz.func77 rfl rfl (ka4 rfl) ?_
 intro cx hcx
 refine kI [.no] True [(0, qS (D.lit (.int .u64 x)))] [] 0 trivial ?_
 refine AW.seq ?_
 refine j5 (.lit rfl) ?_
 refine AW.skip ?_
 refine kN [.no, .call [] (iV (u7 x)) [] 0 [] none, .no] _ [(2, iV (u7 x))] (u3c x zo) ?_
 refine AW.ret ?_
 exact kC (.inr rfl) [] (P := (kM (u7 x))) zk rfl
abbrev dZ (a : List Bx) (i : Nat) : BC := .ds [iD (k9 (kH a) i), D.sl (dI .i64 (qF (kH a) i)) (qB (kH a) i), D.sl (kL (kY (kH a) i)) (ka0 (kY (kH a) i)), D.sl (dI .i64 (qG (kH a) i)) (qC (kH a) i)]
theorem sR (a b : List Bx) (n m : Nat) (hn : ka0 a = n) (hm : ka0 b = m) (h1 : n ≤ 1000) (h2 : m ≤ 1000) (hW : BsW a) (hV : BsW b) : Fun 31 [.c (.d (D.sl (kP a) n)), .c (.d (D.sl (kP b) m))] (kE []) 0 (iV (lK a b)) (kE []) 0 := by
 have hL1 : ka0 (kH a) ≤ 64 ∧ ka0 (kH b) ≤ 64 := ⟨k6m a, k6m b⟩
 refine Fun.mk (n := 63) Tryz.func31 rfl rfl (ka4 rfl) ?_
 intro cx hcx
 refine kI [.no] True [(0, .e (kQ a n)), (1, .e (kQ b m))] [] 0 trivial ?_
 refine kN [.no] True [(0, .e (kQ a n)), (1, .e (kQ b m)), (5, nV)] trivial ?_
 refine AW.seq ?_
 have hx1 : ((ka0 (kH a)) ≤ n) := (by have h9 := c9 a; omega)
 refine kN [.no, .call [] (.e (qW (kH a))) [] 0 [] none, .no, .no] _ [(1, .e (kQ b m)), (5, nV), (14, .e (qW (kH a))), (15, uV (ka0 (kH a))), (16, iV 0)] (i9 a n zo zo (kZ : BsW a)) ?_
 refine AW.block ?_
 refine AW.adoptS 5 1 3 rfl ?_
 refine kU 0 hcx (fun (x : {x : Nat × Nat × List Int // match x with | (i, q, o) => (i ≤ ka0 (kH a)) ∧ (prS (kH a) (kH b) i = o) ∧ (ka0 o = q) ∧ (q ≤ i * 64)}) => match x with | ⟨(i, q, o), _⟩ => (⟨[(1, .e (kQ b m)), (5, oV 1 0 q 1), (14, .e (qW (kH a))), (15, uV (ka0 (kH a))), (16, uV i)], [(1, some (3, .ds (dI .i64 o)))], 2⟩ : ES)) (fun x => match x with | ⟨(i, q, o), _⟩ => ka0 (kH a) - i) ⟨((0 : Nat), (0 : Nat), (([] : List Int) : List Int)), ⟨zo, rfl, rfl, zo⟩⟩ [(1, 0)] (P := (kJ (kP b)) ∧ (kG m) ∧ (kG 0) ∧ (kG 0) ∧ (kJ (kP (kH a))) ∧ (kG (ka0 (kH a))) ∧ (kM (ka0 (kH a) : Int)) ∧ (kM 0) ∧ (((dI .i64 ([] : List Int)) : List D) = ([] : List D))) zk ⟨rfl, rfl, rfl, rfl, rfl, rfl, rfl, rfl, (by rfl)⟩ ?_
 rintro ⟨⟨i, q, o⟩, hinv0⟩
 obtain ⟨hi, ho, hq, hqm⟩ : (i ≤ ka0 (kH a)) ∧ (prS (kH a) (kH b) i = o) ∧ (ka0 o = q) ∧ (q ≤ i * 64) := hinv0
 refine qN (l := [(1, .e (kQ b m)), (5, oV 1 0 q 1), (14, .e (qW (kH a))), (15, uV (ka0 (kH a))), (16, uV i)]) (g := [(1, some (3, .ds (dI .i64 o)))]) (nx := 2) rfl rfl rfl ?_
 by_cases hx2 : (((i : Nat) : Int) < (((ka0 (kH a)) : Nat) : Int))
 ·refine kI [.b true] (((i : Int) < (ka0 (kH a) : Int))) [(1, .e (kQ b m)), (5, oV 1 0 q 1), (14, .e (qW (kH a))), (15, uV (ka0 (kH a))), (16, uV i), (17, bV true)] [(1, some (3, .ds (dI .i64 o)))] 2 zo ?_
  refine AW.seq ?_
  refine yW ?_
  refine AW.seq ?_
  refine AW.block ?_
  obtain ⟨hx3, hx4, hx5, hx6, hx7⟩ := BsW.at (aB (kZ : BsW a)) (i)
  have hx8 : ((1 : Nat) ≤ (ka0 (kY (kH a) i))) := g6 zo
  refine kI [.n i, .ds (uY (kH a) i), .no, .no] ((kM (i : Int)) ∧ (i < (ka0 (kH a))) ∧ (List.take 4 (ka3 (i * 4) (kP (kH a))) = (uY (kH a) i)) ∧ (((uY (kH a) i) : List D).length = 4)) [(1, .e (kQ b m)), (5, oV 1 0 q 1), (7, rV 2 0), (14, .e (qW (kH a))), (15, uV (ka0 (kH a))), (16, uV i)] [(1, some (3, .ds (dI .i64 o))), (2, some (59, (dZ a i)))] 3 ⟨rfl, zo, (yF zo), rfl⟩ ?_
  have hx9 : ((ka0 (kH b)) ≤ m) := (by have h9 := c9 b; omega)
  refine kN [.no, .call [] (.e (qW (kH b))) [] 0 [] none, .no, .no] _ [(1, .e (kQ b m)), (5, oV 1 0 q 1), (7, rV 2 0), (14, .e (qW (kH a))), (15, uV (ka0 (kH a))), (16, uV i), (21, .e (qW (kH b))), (22, uV (ka0 (kH b))), (23, iV 0)] (i9 b m zo zo (kZ : BsW b)) ?_
  refine AW.block ?_
  refine kU 0 hcx (fun (x : {x : Nat × Nat × List Int // match x with | (j, p, x) => (j ≤ ka0 (kH b)) ∧ (prJ (kH a) (kH b) i j = x) ∧ (ka0 x = p) ∧ (p ≤ i * 64 + j)}) => match x with | ⟨(j, p, x), _⟩ => (⟨[(1, .e (kQ b m)), (5, oV 3 0 p 1), (7, rV 2 0), (14, .e (qW (kH a))), (15, uV (ka0 (kH a))), (16, uV i), (21, .e (qW (kH b))), (22, uV (ka0 (kH b))), (23, uV j)], [(3, some (3, .ds (dI .i64 x))), (2, some (59, (dZ a i)))], 4⟩ : ES)) (fun x => match x with | ⟨(j, p, x), _⟩ => ka0 (kH b) - j) ⟨((0 : Nat), (q : Nat), (o : List Int)), ⟨zo, (u4e ho), (by assumption), zo⟩⟩ [(3, 1)] (P := (kJ (kP b)) ∧ (kG m) ∧ (kG 0) ∧ (kG q) ∧ (kG 0) ∧ (kJ (kP (kH a))) ∧ (kG (ka0 (kH a))) ∧ (kM (ka0 (kH a) : Int)) ∧ (kM (i : Int)) ∧ (kJ (kP (kH b))) ∧ (kG (ka0 (kH b))) ∧ (kM (ka0 (kH b) : Int)) ∧ (kM 0) ∧ (kJ (dI .i64 o)) ∧ (kJ (uY (kH a) i))) zk ⟨rfl, rfl, rfl, rfl, rfl, rfl, rfl, rfl, rfl, rfl, rfl, rfl, rfl, rfl, rfl⟩ ?_
  rintro ⟨⟨j, p, x⟩, hinv1⟩
  obtain ⟨hj, hJ, hp, hpm⟩ : (j ≤ ka0 (kH b)) ∧ (prJ (kH a) (kH b) i j = x) ∧ (ka0 x = p) ∧ (p ≤ i * 64 + j) := hinv1
  refine qN (l := [(1, .e (kQ b m)), (5, oV 3 0 p 1), (7, rV 2 0), (14, .e (qW (kH a))), (15, uV (ka0 (kH a))), (16, uV i), (21, .e (qW (kH b))), (22, uV (ka0 (kH b))), (23, uV j)]) (g := [(3, some (3, .ds (dI .i64 x))), (2, some (59, (dZ a i)))]) (nx := 4) rfl rfl rfl ?_
  by_cases hx10 : (((j : Nat) : Int) < (((ka0 (kH b)) : Nat) : Int))
  ·refine kI [.b true] (((j : Int) < (ka0 (kH b) : Int))) [(1, .e (kQ b m)), (5, oV 3 0 p 1), (7, rV 2 0), (14, .e (qW (kH a))), (15, uV (ka0 (kH a))), (16, uV i), (21, .e (qW (kH b))), (22, uV (ka0 (kH b))), (23, uV j), (24, bV true)] [(2, some (59, (dZ a i))), (3, some (3, .ds (dI .i64 x)))] 4 zo ?_
   refine AW.seq ?_
   refine yW ?_
   refine AW.seq ?_
   refine AW.block ?_
   obtain ⟨hx11, hx12, hx13, hx14, hx15⟩ := BsW.at (aB (kZ : BsW b)) (j)
   have hx16 : ((1 : Nat) ≤ (ka0 (kY (kH b) j))) := g6 zo
   refine kI [.n j, .ds (uY (kH b) j), .no, .no] ((kM (j : Int)) ∧ (j < (ka0 (kH b))) ∧ (List.take 4 (ka3 (j * 4) (kP (kH b))) = (uY (kH b) j)) ∧ (((uY (kH b) j) : List D).length = 4)) [(1, .e (kQ b m)), (5, oV 3 0 p 1), (7, rV 2 0), (9, rV 4 0), (14, .e (qW (kH a))), (15, uV (ka0 (kH a))), (16, uV i), (21, .e (qW (kH b))), (22, uV (ka0 (kH b))), (23, uV j)] [(2, some (59, (dZ a i))), (3, some (3, .ds (dI .i64 x))), (4, some (59, .ds (uY (kH b) j)))] 5 ⟨rfl, zo, (yF zo), rfl⟩ ?_
   have hx17 : (((0 : Int) ≤ (tI (k9 (kH a) i) (qF (kH a) i) (qB (kH a) i) (kY (kH a) i) (ka0 (kY (kH a) i)) (qG (kH a) i) (qC (kH a) i) (k9 (kH b) j) (qF (kH b) j) (qB (kH b) j) (kY (kH b) j) (qG (kH b) j) (qC (kH b) j))) ∧ ((tI (k9 (kH a) i) (qF (kH a) i) (qB (kH a) i) (kY (kH a) i) (ka0 (kY (kH a) i)) (qG (kH a) i) (qC (kH a) i) (k9 (kH b) j) (qF (kH b) j) (qB (kH b) j) (kY (kH b) j) (qG (kH b) j) (qC (kH b) j)) ≤ 15)) := k7n ..
   refine aD [.no, .no, .no, .call [] (iV (tI (k9 (kH a) i) (qF (kH a) i) (qB (kH a) i) (kY (kH a) i) (ka0 (kY (kH a) i)) (qG (kH a) i) (qC (kH a) i) (k9 (kH b) j) (qF (kH b) j) (qB (kH b) j) (kY (kH b) j) (qG (kH b) j) (qC (kH b) j))) [] 0 [] none, .no, .ap none (p + 1) (dI .i64 (x ++ ([(tI (k9 (kH a) i) (qF (kH a) i) (qB (kH a) i) (kY (kH a) i) (ka0 (kY (kH a) i)) (qG (kH a) i) (qC (kH a) i) (k9 (kH b) j) (qF (kH b) j) (qB (kH b) j) (kY (kH b) j) (qG (kH b) j) (qC (kH b) j))] : List Int))), .no] ((_) ∧ ([iD (tI (k9 (kH a) i) (qF (kH a) i) (qB (kH a) i) (kY (kH a) i) (ka0 (kY (kH a) i)) (qG (kH a) i) (qC (kH a) i) (k9 (kH b) j) (qF (kH b) j) (qB (kH b) j) (kY (kH b) j) (qG (kH b) j) (qC (kH b) j))].length = 1 * 1) ∧ (((dI .i64 x) : List D).length = p * 1) ∧ ((p + 1) * 8 ≤ 140737488355328) ∧ (p + 1 = (p + 1)) ∧ (((dI .i64 x) : List D) ++ [iD (tI (k9 (kH a) i) (qF (kH a) i) (qB (kH a) i) (kY (kH a) i) (ka0 (kY (kH a) i)) (qG (kH a) i) (qC (kH a) i) (k9 (kH b) j) (qF (kH b) j) (qB (kH b) j) (kY (kH b) j) (qG (kH b) j) (qC (kH b) j))] = (dI .i64 (x ++ ([(tI (k9 (kH a) i) (qF (kH a) i) (qB (kH a) i) (kY (kH a) i) (ka0 (kY (kH a) i)) (qG (kH a) i) (qC (kH a) i) (k9 (kH b) j) (qF (kH b) j) (qB (kH b) j) (kY (kH b) j) (qG (kH b) j) (qC (kH b) j))] : List Int))))) [(1, .e (kQ b m)), (5, oV 6 0 (p + 1) 1), (7, rV 2 0), (14, .e (qW (kH a))), (15, uV (ka0 (kH a))), (16, uV i), (21, .e (qW (kH b))), (22, uV (ka0 (kH b))), (23, uV j)] [(2, some (59, (dZ a i))), (6, some (3, .ds (dI .i64 (x ++ ([(tI (k9 (kH a) i) (qF (kH a) i) (qB (kH a) i) (kY (kH a) i) (ka0 (kY (kH a) i)) (qG (kH a) i) (qC (kH a) i) (k9 (kH b) j) (qF (kH b) j) (qB (kH b) j) (kY (kH b) j) (qG (kH b) j) (qC (kH b) j))] : List Int)))))] 7 ⟨(u9a (k9 (kH a) i) (qF (kH a) i) (qB (kH a) i) (kY (kH a) i) (ka0 (kY (kH a) i)) (qG (kH a) i) (qC (kH a) i) (k9 (kH b) j) (qF (kH b) j) (qB (kH b) j) (kY (kH b) j) (ka0 (kY (kH b) j)) (qG (kH b) j) (qC (kH b) j) zo zo rfl zo zo zo (BsW.ms (aB (kZ : BsW a)) _) zo zo rfl zo zo zo (BsW.ms (aB (kZ : BsW b)) _)), eL, eL, zo, zo, (aN .i64 x ([(tI (k9 (kH a) i) (qF (kH a) i) (qB (kH a) i) (kY (kH a) i) (ka0 (kY (kH a) i)) (qG (kH a) i) (qC (kH a) i) (k9 (kH b) j) (qF (kH b) j) (qB (kH b) j) (kY (kH b) j) (qG (kH b) j) (qC (kH b) j))] : List Int))⟩ ?_
   refine uJ [.w, .no] (uZ ((j : Int) + 1)) [(1, .e (kQ b m)), (5, oV 6 0 (p + 1) 1), (7, rV 2 0), (14, .e (qW (kH a))), (15, uV (ka0 (kH a))), (16, uV i), (21, .e (qW (kH b))), (22, uV (ka0 (kH b))), (23, iV (↑j + 1))] ⟨by omega, by omega⟩ ?_
   exact kX ⟨(((j + 1) : Nat), ((p + 1) : Nat), ((x ++ ([(tI (k9 (kH a) i) (qF (kH a) i) (qB (kH a) i) (kY (kH a) i) (ka0 (kY (kH a) i)) (qG (kH a) i) (qC (kH a) i) (k9 (kH b) j) (qF (kH b) j) (qB (kH b) j) (kY (kH b) j) (qG (kH b) j) (qC (kH b) j))] : List Int)) : List Int)), ⟨zo, (u4c hJ rfl), (by (simp only [qH, qE, ka9, kb0, kb3] <;> omega)), zo⟩⟩ [(3, 6)] (P := (kJ (kP b)) ∧ (kG m) ∧ (kG 0) ∧ (kG (p + 1)) ∧ (kG 0) ∧ (kJ (kP (kH a))) ∧ (kG (ka0 (kH a))) ∧ (kM (ka0 (kH a) : Int)) ∧ (kM (i : Int)) ∧ (kJ (kP (kH b))) ∧ (kG (ka0 (kH b))) ∧ (kM (ka0 (kH b) : Int)) ∧ (vX j) ∧ (kJ (dI .i64 (x ++ ([(tI (k9 (kH a) i) (qF (kH a) i) (qB (kH a) i) (kY (kH a) i) (ka0 (kY (kH a) i)) (qG (kH a) i) (qC (kH a) i) (k9 (kH b) j) (qF (kH b) j) (qB (kH b) j) (kY (kH b) j) (qG (kH b) j) (qC (kH b) j))] : List Int)))) ∧ (kJ (uY (kH a) i))) zk ⟨rfl, rfl, rfl, rfl, rfl, rfl, rfl, rfl, rfl, rfl, rfl, rfl, (by rfl), rfl, rfl⟩ (show ka0 (kH b) - (j + 1) < ka0 (kH b) - j from zo)
  ·refine kI [.b false] (¬ ((j : Int) < (ka0 (kH b) : Int))) [(1, .e (kQ b m)), (5, oV 3 0 p 1), (7, rV 2 0), (14, .e (qW (kH a))), (15, uV (ka0 (kH a))), (16, uV i), (21, .e (qW (kH b))), (22, uV (ka0 (kH b))), (23, uV j), (24, bV false)] [(2, some (59, (dZ a i))), (3, some (3, .ds (dI .i64 x)))] 4 zo ?_
   refine AW.seq ?_
   refine zf ?_
   refine AW.exit ?_
   refine aD [.w, .no] (uZ ((i : Int) + 1)) [(1, .e (kQ b m)), (5, oV 3 0 p 1), (14, .e (qW (kH a))), (15, uV (ka0 (kH a))), (16, iV (↑i + 1))] [(3, some (3, .ds (dI .i64 x)))] 4 ⟨by omega, by omega⟩ ?_
   exact kX ⟨(((i + 1) : Nat), (p : Nat), (x : List Int)), ⟨zo, (u4d hJ zo), (by assumption), zo⟩⟩ [(1, 3)] (P := (kJ (kP b)) ∧ (kG m) ∧ (kG 0) ∧ (kG p) ∧ (kJ (kP (kH a))) ∧ (kG (ka0 (kH a))) ∧ (kM (ka0 (kH a) : Int)) ∧ (vX i) ∧ (kJ (dI .i64 x))) zk ⟨rfl, rfl, rfl, rfl, rfl, rfl, rfl, (by rfl), rfl⟩ (show ka0 (kH a) - (i + 1) < ka0 (kH a) - i from zo)
 ·refine kI [.b false] (¬ ((i : Int) < (ka0 (kH a) : Int))) [(1, .e (kQ b m)), (5, oV 1 0 q 1), (14, .e (qW (kH a))), (15, uV (ka0 (kH a))), (16, uV i), (17, bV false)] [(1, some (3, .ds (dI .i64 o)))] 2 zo ?_
  refine AW.seq ?_
  refine zf ?_
  refine AW.exit ?_
  refine AW.seq ?_
  rcases ka6 (ctB o q 15) with hx18 | hx18
  ·refine AW.freeze 1 (l' := [(1, .e (kQ b m)), (5, sV .i64 o q), (14, .e (qW (kH a))), (15, uV (ka0 (kH a))), (16, uV i), (17, bV false)]) (g' := []) rfl (FzS.cons rfl (.same _) (FzS.cons rfl (.e (.c (@FzC.own 1 ((dI .i64 o) : List D) 0 q 1 true ((dI .i64 o) : List D) xN eL))) (FzS.cons rfl (.same _) (FzS.cons rfl (.same _) (FzS.cons rfl (.same _) (FzS.cons rfl (.same _) FzS.nil)))))) FzG.nil ?_
   refine kI [.no, .call [] (bV true) [] 0 [] none] (Fun 74 [.c (.d (dl o q)), iE 15] (kE []) 0 (bV true) (kE []) 0) [(5, sV .i64 o q), (36, bV true)] [] 2 (by have h0 := (u6w o q 15 zo zo); rw [hx18] at h0; exact h0) ?_
   refine zt ?_
   refine kN [.no] True [(4, iV 0)] trivial ?_
   refine AW.ret ?_
   exact kC (.inr rfl) [] (P := (((lK a b) : Int) = 0)) zk (by exact u93 ho zo hq (by assumption))
  ·refine AW.freeze 1 (l' := [(1, .e (kQ b m)), (5, sV .i64 o q), (14, .e (qW (kH a))), (15, uV (ka0 (kH a))), (16, uV i), (17, bV false)]) (g' := []) rfl (FzS.cons rfl (.same _) (FzS.cons rfl (.e (.c (@FzC.own 1 ((dI .i64 o) : List D) 0 q 1 true ((dI .i64 o) : List D) xN eL))) (FzS.cons rfl (.same _) (FzS.cons rfl (.same _) (FzS.cons rfl (.same _) (FzS.cons rfl (.same _) FzS.nil)))))) FzG.nil ?_
   refine kI [.no, .call [] (bV false) [] 0 [] none] (Fun 74 [.c (.d (dl o q)), iE 15] (kE []) 0 (bV false) (kE []) 0) [(5, sV .i64 o q), (36, bV false)] [] 2 (by have h0 := (u6w o q 15 zo zo); rw [hx18] at h0; exact h0) ?_
   refine q8 ?_
   refine kN [.no] True [(5, sV .i64 o q), (10, iV 15)] trivial ?_
   refine AW.seq ?_
   refine kI [.no, .no] True [(5, sV .i64 o q), (10, iV 15), (11, rV 2 0)] [(2, some (3, .ds [iD 14]))] 3 trivial ?_
   refine AW.block ?_
   refine kU 0 hcx (fun (x : {x : Nat × Int // match x with | (z, y) => (z ≤ 14 ∧ 0 ≤ y ∧ y ≤ 15) ∧ (wP o q z = y)}) => match x with | ⟨(z, y), _⟩ => (⟨[(5, sV .i64 o q), (10, iV y), (11, rV 3 0)], [(3, some (3, .ds [iD (14 - (z : Int))]))], 4⟩ : ES)) (fun x => match x with | ⟨(z, y), _⟩ => 14 - z) ⟨((0 : Nat), (15 : Int)), ⟨zo, rfl⟩⟩ [(3, 2)] (P := (kJ (dI .i64 o)) ∧ (kG q) ∧ (kM 15) ∧ (kG 0) ∧ (kJ [iD 14])) zk ⟨rfl, rfl, rfl, rfl, rfl⟩ ?_
   rintro ⟨⟨z, y⟩, hinv2⟩
   obtain ⟨hz, hy⟩ : (z ≤ 14 ∧ 0 ≤ y ∧ y ≤ 15) ∧ (wP o q z = y) := hinv2
   refine qN (l := [(5, sV .i64 o q), (10, iV y), (11, rV 3 0)]) (g := [(3, some (3, .ds [iD (14 - (z : Int))]))]) (nx := 4) rfl rfl rfl ?_
   refine AW.seq ?_
   by_cases hx19 : ((0 : Int) < (14 - ((z : Nat) : Int)))
   ·refine kI [.no, .b true] (((0 : Int) < (14 - (z : Int)))) [(5, sV .i64 o q), (10, iV y), (11, rV 3 0), (38, bV true)] [(3, some (3, .ds [iD (14 - ↑z)]))] 4 zo ?_
    refine yW ?_
    refine AW.seq ?_
    refine AW.block ?_
    refine kN [.no, .no] True [(5, sV .i64 o q), (10, iV y), (11, rV 3 0), (12, .e (.c (.fn 75 [(3, 0)])))] trivial ?_
    by_cases hx20 : ((0 : Int) < ((q : Nat) : Int))
    ·rcases ka6 (mtB o q (14 - ((z : Nat) : Int))) with hx21 | hx21
     ·refine kN [.no, .no, .b true, .no, .no, .no, .call [3] (bV true) [(0, some (3, .ds [iD (14 - (z : Int))]))] 1 [] none, .no, .no, .no, .no] ((((0 : Int) < (q : Int))) ∧ (Fun 76 [.c (.d (dl o q)), .c (.fn 75 [(0, 0)])] (kE [(0, some (3, .ds [iD (14 - (z : Int))]))]) 1 (bV true) (kE [(0, some (3, .ds [iD (14 - (z : Int))]))]) 1)) [(5, sV .i64 o q), (10, iV y), (11, rV 3 0), (59, bV false)] ⟨zo, (by have h0 := (u3d o q (14 - (z : Int)) zo zo); rw [hx21] at h0; exact h0)⟩ ?_
      refine q8 ?_
      refine AW.seq ?_
      refine kI [.no] True [(5, sV .i64 o q), (10, iV y), (61, iV (14 - ↑z))] [] 4 trivial ?_
      refine aD [.no, .no] True [(5, sV .i64 o q), (10, iV y), (11, rV 4 0)] [(4, some (3, .ds [iD (14 - ↑z)]))] 5 trivial ?_
      refine aD [.no, .w, .no] (uZ ((14 - (z : Int)) - 1)) [(5, sV .i64 o q), (10, iV y), (11, rV 4 0)] [(4, some (3, .ds [iD ((14 - ↑z) - 1)]))] 5 ⟨by omega, by omega⟩ ?_
      exact kX ⟨(((z + 1) : Nat), (y : Int)), ⟨zo, (by exact u91 hy (by assumption))⟩⟩ [(3, 4)] (P := (kJ (dI .i64 o)) ∧ (kG q) ∧ (kM y) ∧ (kG 0) ∧ (([iD (14 - (((z + 1) : Nat) : Int))] : List D) = [iD ((14 - (z : Int)) - 1)])) zk ⟨rfl, rfl, rfl, rfl, (by (rw [show (14 - ((z + 1 : Nat) : Int)) = 14 - (z : Int) - 1 by omega]))⟩ (show 14 - (z + 1) < 14 - z from zo)
     ·by_cases hx22 : ((u7 (14 - ((z : Nat) : Int))) ≤ (u7 y))
      ·refine kN [.no, .no, .b true, .no, .no, .no, .call [3] (bV false) [(0, some (3, .ds [iD (14 - (z : Int))]))] 1 [] none, .no, .no, .no, .no, .w, .call [] (iV (u7 (14 - (z : Int)))) [] 0 [] none, .no, .w, .call [] (iV (u7 y)) [] 0 [] none, .b true, .no] ((((0 : Int) < (q : Int))) ∧ (Fun 76 [.c (.d (dl o q)), .c (.fn 75 [(0, 0)])] (kE [(0, some (3, .ds [iD (14 - (z : Int))]))]) 1 (bV false) (kE [(0, some (3, .ds [iD (14 - (z : Int))]))]) 1) ∧ (0 ≤ (14 - (z : Int)) ∧ (14 - (z : Int)) ≤ 18446744073709551615) ∧ (_) ∧ (0 ≤ y ∧ y ≤ 18446744073709551615) ∧ (_) ∧ (((u7 (14 - (z : Int))) ≤ (u7 y)))) [(5, sV .i64 o q), (10, iV y), (11, rV 3 0), (59, bV true)] ⟨zo, (by have h0 := (u3d o q (14 - (z : Int)) zo zo); rw [hx21] at h0; exact h0), ⟨by omega, by omega⟩, (k9l (14 - (z : Int)) zo), ⟨by omega, by omega⟩, (k9l y zo), zo⟩ ?_
       refine zt ?_
       refine uJ [.no, .no] True [(5, sV .i64 o q), (10, iV (14 - ↑z)), (11, rV 3 0)] trivial ?_
       refine AW.seq ?_
       refine kI [.no] True [(5, sV .i64 o q), (10, iV (14 - ↑z)), (61, iV (14 - ↑z))] [] 4 trivial ?_
       refine aD [.no, .no] True [(5, sV .i64 o q), (10, iV (14 - ↑z)), (11, rV 4 0)] [(4, some (3, .ds [iD (14 - ↑z)]))] 5 trivial ?_
       refine aD [.no, .w, .no] (uZ ((14 - (z : Int)) - 1)) [(5, sV .i64 o q), (10, iV (14 - ↑z)), (11, rV 4 0)] [(4, some (3, .ds [iD ((14 - ↑z) - 1)]))] 5 ⟨by omega, by omega⟩ ?_
       exact kX ⟨(((z + 1) : Nat), ((14 - (z : Int)) : Int)), ⟨zo, (by exact u8z hy zo (by assumption) zo rfl)⟩⟩ [(3, 4)] (P := (kJ (dI .i64 o)) ∧ (kG q) ∧ (kM (14 - (z : Int))) ∧ (kG 0) ∧ (([iD (14 - (((z + 1) : Nat) : Int))] : List D) = [iD ((14 - (z : Int)) - 1)])) zk ⟨rfl, rfl, rfl, rfl, (by (rw [show (14 - ((z + 1 : Nat) : Int)) = 14 - (z : Int) - 1 by omega]))⟩ (show 14 - (z + 1) < 14 - z from zo)
      ·refine kN [.no, .no, .b true, .no, .no, .no, .call [3] (bV false) [(0, some (3, .ds [iD (14 - (z : Int))]))] 1 [] none, .no, .no, .no, .no, .w, .call [] (iV (u7 (14 - (z : Int)))) [] 0 [] none, .no, .w, .call [] (iV (u7 y)) [] 0 [] none, .b false, .no] ((((0 : Int) < (q : Int))) ∧ (Fun 76 [.c (.d (dl o q)), .c (.fn 75 [(0, 0)])] (kE [(0, some (3, .ds [iD (14 - (z : Int))]))]) 1 (bV false) (kE [(0, some (3, .ds [iD (14 - (z : Int))]))]) 1) ∧ (0 ≤ (14 - (z : Int)) ∧ (14 - (z : Int)) ≤ 18446744073709551615) ∧ (_) ∧ (0 ≤ y ∧ y ≤ 18446744073709551615) ∧ (_) ∧ (¬ ((u7 (14 - (z : Int))) ≤ (u7 y)))) [(5, sV .i64 o q), (10, iV y), (11, rV 3 0), (59, bV false)] ⟨zo, (by have h0 := (u3d o q (14 - (z : Int)) zo zo); rw [hx21] at h0; exact h0), ⟨by omega, by omega⟩, (k9l (14 - (z : Int)) zo), ⟨by omega, by omega⟩, (k9l y zo), zo⟩ ?_
       refine q8 ?_
       refine AW.seq ?_
       refine kI [.no] True [(5, sV .i64 o q), (10, iV y), (61, iV (14 - ↑z))] [] 4 trivial ?_
       refine aD [.no, .no] True [(5, sV .i64 o q), (10, iV y), (11, rV 4 0)] [(4, some (3, .ds [iD (14 - ↑z)]))] 5 trivial ?_
       refine aD [.no, .w, .no] (uZ ((14 - (z : Int)) - 1)) [(5, sV .i64 o q), (10, iV y), (11, rV 4 0)] [(4, some (3, .ds [iD ((14 - ↑z) - 1)]))] 5 ⟨by omega, by omega⟩ ?_
       exact kX ⟨(((z + 1) : Nat), (y : Int)), ⟨zo, (by exact u90 hy zo)⟩⟩ [(3, 4)] (P := (kJ (dI .i64 o)) ∧ (kG q) ∧ (kM y) ∧ (kG 0) ∧ (([iD (14 - (((z + 1) : Nat) : Int))] : List D) = [iD ((14 - (z : Int)) - 1)])) zk ⟨rfl, rfl, rfl, rfl, (by (rw [show (14 - ((z + 1 : Nat) : Int)) = 14 - (z : Int) - 1 by omega]))⟩ (show 14 - (z + 1) < 14 - z from zo)
    ·refine kN (.no :: .no :: .b false :: kT 4 []) (¬ ((0 : Int) < (q : Int))) [(5, sV .i64 o q), (10, iV y), (11, rV 3 0), (59, bV false)] zo ?_
     refine q8 ?_
     refine AW.seq ?_
     refine kI [.no] True [(5, sV .i64 o q), (10, iV y), (61, iV (14 - ↑z))] [] 4 trivial ?_
     refine aD [.no, .no] True [(5, sV .i64 o q), (10, iV y), (11, rV 4 0)] [(4, some (3, .ds [iD (14 - ↑z)]))] 5 trivial ?_
     refine aD [.no, .w, .no] (uZ ((14 - (z : Int)) - 1)) [(5, sV .i64 o q), (10, iV y), (11, rV 4 0)] [(4, some (3, .ds [iD ((14 - ↑z) - 1)]))] 5 ⟨by omega, by omega⟩ ?_
     exact kX ⟨(((z + 1) : Nat), (y : Int)), ⟨zo, (by exact u94 hy zo)⟩⟩ [(3, 4)] (P := (kJ (dI .i64 o)) ∧ (kG q) ∧ (kM y) ∧ (kG 0) ∧ (([iD (14 - (((z + 1) : Nat) : Int))] : List D) = [iD ((14 - (z : Int)) - 1)])) zk ⟨rfl, rfl, rfl, rfl, (by (rw [show (14 - ((z + 1 : Nat) : Int)) = 14 - (z : Int) - 1 by omega]))⟩ (show 14 - (z + 1) < 14 - z from zo)
   ·refine kI [.no, .b false] (¬ ((0 : Int) < (14 - (z : Int)))) [(5, sV .i64 o q), (10, iV y), (11, rV 3 0), (38, bV false)] [(3, some (3, .ds [iD (14 - ↑z)]))] 4 zo ?_
    refine zf ?_
    refine AW.exit ?_
    refine kI [.no, .no] True [(4, iV y)] [] 4 trivial ?_
    refine AW.ret ?_
    exact kC (.inr rfl) [] (P := (((lK a b) : Int) = y)) zk (by exact u92 ho zo hq (by assumption) hy zo)
end Go.Proofs.YtcfmjpnffembpaaGreat
