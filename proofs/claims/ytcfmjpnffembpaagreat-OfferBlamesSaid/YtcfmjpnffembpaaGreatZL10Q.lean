/- What is to blame, of the code. No statement is proved here. -/
import Derived.Test.YtcfmjpnffembpaaGreatZL10N
namespace Go.Proofs.YtcfmjpnffembpaaGreat
open Go.ChangeShapes Go.WideShapes Go.ChangeAt Go.RowKit
open Bool renaming eq_false_or_eq_true → ka9
open List renaming drop → ka3, getD → ka1, length → ka0, length_append → ka6, length_cons → kb0, length_drop → kb3, length_map → kc5, length_nil → kb1, length_replicate → kb4, length_reverse → kc0, length_set → kb8, length_take → kb2
open Nat renaming le_of_ble_eq_true → ka4, mul_one → kc6
set_option linter.unusedVariables false
set_option linter.unusedSimpArgs false
/-! chapter 10: what is to blame -/
set_option maxHeartbeats 4000000
set_option maxRecDepth 100000
def qK (a b : Int) : Int := qG .and .i64 a b
def x3 (k : Int) (r : List Int) (rn : Nat) (m : List (List Int)) (c : Nat) (s : List Int) (sn : Nat) (k2 : Int) (r2 : List Int) (rn2 : Nat) (m2 : List (List Int)) (s2 : List Int) (sn2 : Nat) : Int :=
 (if qK k k2 = 0 then 0 else 1) + (if qM (kC r rn) (kC r2 rn2) = 0 then 0 else 2) + (if ka0 (uJ m m2 c) = 0 then 0 else 4) + (if qM (kC s sn) (kC s2 sn2) = 0 then 0 else 8)
def yT (k k2 : Int) : Int := if qK k k2 = 0 then 0 else 1
def oS (a : Int) (n : Nat) (b : Int) : Int := a + (if n = 0 then 0 else b)
theorem m8 (k k2 : Int) : (qK k k2 = 0 ∧ yT k k2 = 0) ∨ (¬ qK k k2 = 0 ∧ yT k k2 = 1) := by
 unfold yT; split
 ·exact .inl ⟨by assumption, rfl⟩
 ·exact .inr ⟨by assumption, rfl⟩
theorem nL (a : Int) (n : Nat) (b : Int) : (n = 0 ∧ oS a n b = a) ∨ (1 ≤ n ∧ oS a n b = a + b) := by
 unfold oS; split
 ·exact .inl ⟨by assumption, by omega⟩
 ·exact .inr ⟨by omega, rfl⟩
theorem v24 {a : Int} (h : 0 ≤ a ∧ a ≤ 1) : qG .or .i64 a 2 = a + 2 := by
 rcases (by omega : a = 0 ∨ a = 1) with rfl | rfl <;> decide
theorem v23 {a : Int} (h : 0 ≤ a ∧ a ≤ 3) : qG .or .i64 a 4 = a + 4 := by
 rcases (by omega : a = 0 ∨ a = 1 ∨ a = 2 ∨ a = 3) with rfl | rfl | rfl | rfl <;> decide
theorem v22 {a : Int} (h : 0 ≤ a ∧ a ≤ 7) : qG .or .i64 a 8 = a + 8 := by
 rcases (by omega : a = 0 ∨ a = 1 ∨ a = 2 ∨ a = 3 ∨ a = 4 ∨ a = 5 ∨ a = 6 ∨ a = 7) with rfl | rfl | rfl | rfl | rfl | rfl | rfl | rfl <;> decide
theorem k34 (k : Int) (r : List Int) (rn : Nat) (m : List (List Int)) (c : Nat) (s : List Int) (sn : Nat) (k2 : Int) (r2 : List Int) (rn2 : Nat) (m2 : List (List Int)) (s2 : List Int) (sn2 : Nat) : 0 ≤ x3 k r rn m c s sn k2 r2 rn2 m2 s2 sn2 ∧ x3 k r rn m c s sn k2 r2 rn2 m2 s2 sn2 ≤ 15 := by
 unfold x3; (repeat' split) <;> omega
def shE (xs ys : List Bx) (i j : Nat) : Int := x3 (kQ xs i) (kZ xs i) (kX xs i) (kL xs i) (ka0 (kL xs i)) (qA xs i) (k8 xs i) (kQ ys j) (kZ ys j) (kX ys j) (kL ys j) (qA ys j) (k8 ys j)
def dA (xs ys : List Bx) : Nat → List Int
 | 0 => []
 | i + 1 => dA xs ys i ++ (List.range (ka0 ys)).map (shE xs ys i)
def prJ (xs ys : List Bx) (i j : Nat) : List Int := dA xs ys i ++ (List.range j).map (shE xs ys i)
theorem u9f {xs ys : List Bx} {i : Nat} {o : List Int} (h : dA xs ys i = o) : prJ xs ys i 0 = o := by
 unfold prJ; rw [h]; exact List.append_nil _
theorem u9d {xs ys : List Bx} {i j : Nat} {o : List Int} {x : Int} (h : prJ xs ys i j = o) (hx : x = shE xs ys i j) : prJ xs ys i (j + 1) = o ++ [x] := by
 subst h; subst hx
 unfold prJ; rw [List.range_succ, List.map_append, List.append_assoc]; rfl
theorem u9e {xs ys : List Bx} {i j : Nat} {o : List Int} (h : prJ xs ys i j = o) (hj : j = ka0 ys) : dA xs ys (i + 1) = o := by
 subst hj; exact h
theorem k3b (xs ys : List Bx) : ∀ i, ka0 (dA xs ys i) = i * ka0 ys
 | 0 => (Nat.zero_mul _).symm
 | i + 1 => by rw [dA, ka6, k3b xs ys i, kc5, List.length_range, Nat.succ_mul]
theorem t4 (xs ys : List Bx) : ∀ i, ∀ x ∈ dA xs ys i, 0 ≤ x ∧ x ≤ 15
 | 0 => fun x h => by cases h
 | i + 1 => fun x h => by
  rcases List.mem_append.1 h with h | h
  ·exact t4 xs ys i x h
  ·obtain ⟨j, _, rfl⟩ := List.mem_map.1 h
   exact k34 ..
def ctB (l : List Int) (n : Nat) (v : Int) : Bool := decide (0 ≤ qU l v n)
def stB (d s : Int) : Bool := decide (qK d s = s)
def mtK (l : List Int) (s : Int) : Nat → Int := zB fun j => stB (ka1 l j 0) s
theorem u9v {l : List Int} {s : Int} {k : Nat} (h : mtK l s k = -1) (h2 : stB (ka1 l k 0) s = false) : mtK l s (k + 1) = -1 := gZ h h2
theorem u48 {l : List Int} {s : Int} {k : Nat} (h : mtK l s k = -1) (h2 : stB (ka1 l k 0) s = true) {n : Nat} (hn : k < n) : mtK l s n = (k : Int) := jK h h2 n hn
def x8 (l : List Int) (n : Nat) (s : Int) : Bool := decide (0 ≤ mtK l s n)
def uY (x : Int) : Int := x % 2 + x / 2 % 2 + x / 4 % 2 + x / 8 % 2
def iM (l : List Int) (n : Nat) : Nat → Int
 | 0 => 15
 | i + 1 => if 1 ≤ n ∧ x8 l n (14 - (i : Int)) = false ∧ uY (14 - (i : Int)) ≤ uY (iM l n i) then 14 - (i : Int) else iM l n i
theorem k4d (l : List Int) (n : Nat) : ∀ i, i ≤ 14 → 0 ≤ iM l n i ∧ iM l n i ≤ 15
 | 0, _ => ⟨(by decide : (0 : Int) ≤ 15), Int.le_refl 15⟩
 | i + 1, h => by
  have := k4d l n i (by omega)
  rw [iM]; split <;> omega
theorem u3e {l : List Int} {n i : Nat} {y x : Int} (h : iM l n i = y) (h1 : 1 ≤ n) (h2 : x8 l n (14 - (i : Int)) = false) (h3 : uY (14 - (i : Int)) ≤ uY y) (hx : x = 14 - (i : Int)) : iM l n (i + 1) = x := by
 subst h; rw [hx]; exact if_pos ⟨h1, h2, h3⟩
theorem u3h {l : List Int} {n i : Nat} {y : Int} (h : iM l n i = y) (h1 : ¬ 1 ≤ n) : iM l n (i + 1) = y := by
 subst h; exact if_neg fun e => h1 e.1
theorem u3g {l : List Int} {n i : Nat} {y : Int} (h : iM l n i = y) (h2 : x8 l n (14 - (i : Int)) = true) : iM l n (i + 1) = y := by
 subst h; exact if_neg fun e => by rw [h2] at e; cases e.2.1
theorem u3f {l : List Int} {n i : Nat} {y : Int} (h : iM l n i = y) (h3 : ¬ uY (14 - (i : Int)) ≤ uY y) : iM l n (i + 1) = y := by
 subst h; exact if_neg fun e => h3 e.2.2
def blP (l : List Int) : Int := if ctB l (ka0 l) 15 = true then 0 else iM l (ka0 l) 14
def qN (a b : List Bx) : Int := blP (dA (kF a) (kF b) (ka0 (kF a)))
theorem v0x {a b : List Bx} {o : List Int} {i n : Nat} (h : dA (kF a) (kF b) i = o) (hi : i = ka0 (kF a)) (hn : ka0 o = n) (hc : ctB o n 15 = true) : qN a b = 0 := by
 subst hi; subst hn
 unfold qN; rw [h]; exact if_pos hc
theorem v0w {a b : List Bx} {o : List Int} {i n : Nat} {y : Int} {z : Nat} (h : dA (kF a) (kF b) i = o) (hi : i = ka0 (kF a)) (hn : ka0 o = n) (hc : ctB o n 15 = false) (hy : iM o n z = y) (hz : z = 14) : qN a b = y := by
 subst hi; subst hn; subst hz
 unfold qN; rw [h, ← hy]; exact if_neg (by rw [hc]; decide)
theorem hZ (a b : List Bx) : 0 ≤ qN a b ∧ qN a b ≤ 15 := by
 unfold qN blP; split
 ·decide
 ·exact k4d _ _ 14 (Nat.le_refl _)
theorem u0c (a : List Bx) : ka0 (kF a) ≤ 64 := by
 unfold kF; split
 ·rename_i h; exact (of_decide_eq_true h).1
 ·exact Nat.zero_le _
theorem c16 {x : Int} (h : 0 ≤ x ∧ x ≤ 15) {p : Int → Prop} (h0 : ∀ n : Nat, n < 16 → p (n : Int)) : p x := by
 have := h0 x.toNat (by omega)
 rw [show ((x.toNat : Nat) : Int) = x by omega] at this; exact this
def x7 (x : Int) : Int := x / 2 % 2 + 4 * (x / 8 % 2)
def x6 (x : Int) : Int := x % 2 + 4 * (x / 4 % 2)
def sF (x : Int) : Int := x / 4 % 2 + x / 8 % 2
def sE (x : Int) : Int := x % 2 + x / 2 % 2
theorem v2b {x : Int} (h : 0 ≤ x ∧ x ≤ 15) : qG .and .u64 (x / 2) 6148914691236517205 = x7 x := c16 (p := fun x => qG .and .u64 (x / 2) 6148914691236517205 = x7 x) h (by decide)
theorem v2a {x : Int} (h : 0 ≤ x ∧ x ≤ 15) : qG .and .u64 x 6148914691236517205 = x6 x := c16 (p := fun x => qG .and .u64 x 6148914691236517205 = x6 x) h (by decide)
theorem v29 {x : Int} (h : 0 ≤ x ∧ x ≤ 15) : qG .and .u64 ((x7 x + x6 x) / 4) 3689348814741910323 = sF x := c16 (p := fun x => qG .and .u64 ((x7 x + x6 x) / 4) 3689348814741910323 = sF x) h (by decide)
theorem v28 {x : Int} (h : 0 ≤ x ∧ x ≤ 15) : qG .and .u64 (x7 x + x6 x) 3689348814741910323 = sE x := c16 (p := fun x => qG .and .u64 (x7 x + x6 x) 3689348814741910323 = sE x) h (by decide)
theorem v27 {x y : Int} (h : 0 ≤ x ∧ x ≤ 15) (hy : y = sF x + sE x) : qG .and .u64 y 1085102592571150095 = uY x := by
 rw [hy]; exact c16 (p := fun x => qG .and .u64 (sF x + sE x) 1085102592571150095 = uY x) h (by decide)
theorem v26 {x y : Int} (h : 0 ≤ x ∧ x ≤ 15) (hy : y = uY x) : qG .and .i64 y 127 = uY x := by
 rw [hy]; exact c16 (p := fun x => qG .and .i64 (uY x) 127 = uY x) h (by decide)
theorem v25 {x : Int} (h : 0 ≤ x ∧ x ≤ 15) : (0 ≤ x7 x ∧ x7 x ≤ 5) ∧ (0 ≤ x6 x ∧ x6 x ≤ 5) ∧ (0 ≤ sF x ∧ sF x ≤ 2) ∧ (0 ≤ sE x ∧ sE x ≤ 2) ∧ 0 ≤ uY x ∧ uY x ≤ 4 := by
 unfold x7 x6 sF sE uY; omega
theorem a5 {p : Prop} (h : p := by first | omega | assumption | simp) : p := h
theorem k1g {p : Prop} (h : p := by first | omega | (simp only [qC, qB, ka6, kb0, kb1, kb2, kb3] <;> omega)) : p := h
theorem bO {p : Prop} (h : p := by first | omega | with_reducible assumption | (simp only [qC, qB, ka6, kb0, kb1, kb2, kb3, kb4, kb8] <;> omega) | rfl | assumption) : p := h
theorem dO {p : Prop} (h : p := by first | omega | (simp only [qC, qB, qQ, ka6, kb0, kb1, kb2, kb3, kb4, kb8, kc5, kc0, kc6] <;> omega) | rfl) : p := h
theorem k1f {p : Prop} (h : p := by first | omega | (simp only [qC, qB, ka6, kb0, kb1] <;> omega)) : p := h
theorem bN {p : Prop} (h : p := by first | rfl | omega | assumption | (simp; done) | (simp; omega)) : p := h
theorem eO {p : Prop} (h : p := by first | omega | (show _ < _; simp; omega)) : p := h
theorem k1h {p : Prop} (h : p := by rw [List.drop_zero, kc6, List.take_of_length_le (by first | omega | (simp only [qC, qB, qQ, ka6, kb0, kb1, kb2, kb3, kb4, kb8, kc5, kc0, kc6] <;> omega))]) : p := h
theorem k5y (a b : List (List Int)) (n m : Nat) (hn : ka0 a = n) (hm : ka0 b = m) (h1 : n ≤ 1000000) (h2 : m ≤ 1000000) (hW : MsW a) (hV : MsW b) : Fun 86 [.c (.d (D.sl (kI a) n)), .c (.d (D.sl (kI b) m))] (kH []) 0 (kG (kI (uJ a b n)) (ka0 (uJ a b n))) (kH []) 0 := by
 refine Fun.mk (n := 24) Tryz.func86 rfl rfl (ka4 rfl) ?_
 intro cx hcx
 refine kK [.no] True [(0, kG (kI a) n), (1, kG (kI b) m)] [] 0 trivial ?_
 refine kO [.no] True [(0, kG (kI a) n), (1, kG (kI b) m), (5, nV)] trivial ?_
 refine AW.seq ?_
 refine kO [.no, .no, .no] True [(1, kG (kI b) m), (5, nV), (8, kG (kI a) n), (9, uV n), (10, iV 0)] trivial ?_
 refine AW.block ?_
 refine AW.adoptS 5 1 23 rfl ?_
 refine kY 0 hcx (fun (x : {x : Nat × Nat × List (List Int) // match x with | (i, q, o) => (i ≤ n ∧ q ≤ i) ∧ (uJ a b i = o) ∧ (ka0 o = q) ∧ (MsW o)}) => match x with | ⟨(i, q, o), _⟩ => (⟨[(1, kG (kI b) m), (5, oV 1 0 q 1), (8, kG (kI a) n), (9, uV n), (10, uV i)], [(1, some (23, .ds (kI o)))], 2⟩ : ES)) (fun x => match x with | ⟨(i, q, o), _⟩ => n - i) ⟨((0 : Nat), (0 : Nat), (([] : List (List Int)) : List (List Int))), ⟨a5, rfl, rfl, MsW.nil⟩⟩ [(1, 0)] (P := (kM (kI b)) ∧ (kJ m) ∧ (kJ 0) ∧ (kJ 0) ∧ (kM (kI a)) ∧ (kJ n) ∧ (kN (n : Int)) ∧ (kN 0) ∧ (((kI ([] : List (List Int))) : List D) = ([] : List D))) zk ⟨rfl, rfl, rfl, rfl, rfl, rfl, rfl, rfl, (by first | rfl | with_reducible assumption)⟩ ?_
 rintro ⟨⟨i, q, o⟩, hinv0⟩
 obtain ⟨hi, ho, hq, hO⟩ : (i ≤ n ∧ q ≤ i) ∧ (uJ a b i = o) ∧ (ka0 o = q) ∧ (MsW o) := hinv0
 refine qR (l := [(1, kG (kI b) m), (5, oV 1 0 q 1), (8, kG (kI a) n), (9, uV n), (10, uV i)]) (g := [(1, some (23, .ds (kI o)))]) (nx := 2) rfl rfl rfl ?_
 by_cases hx1 : (((i : Nat) : Int) < ((n : Nat) : Int))
 ·refine kK [.b true] (((i : Int) < (n : Int))) [(1, kG (kI b) m), (5, oV 1 0 q 1), (8, kG (kI a) n), (9, uV n), (10, uV i), (11, bV true)] [(1, some (23, .ds (kI o)))] 2 zo ?_
  refine AW.seq ?_
  refine vB ?_
  refine AW.seq ?_
  refine AW.block ?_
  have hx2 : ((ka0 (ka1 a i ([] : List Int))) ≤ 1000000) := MsW.at (qD : MsW a) _
  refine kO [.n i, .d (dl (ka1 a i ([] : List Int)) (ka0 (ka1 a i ([] : List Int)))), .no] ((kN (i : Int)) ∧ (i < n) ∧ ((ka3 i (kI a))[0]? = some (dl (ka1 a i ([] : List Int)) (ka0 (ka1 a i ([] : List Int)))))) [(1, kG (kI b) m), (5, oV 1 0 q 1), (7, sV .i64 (ka1 a i ([] : List Int)) (ka0 (ka1 a i ([] : List Int)))), (8, kG (kI a) n), (9, uV n), (10, uV i)] ⟨rfl, zo, (vQ _ _ k1g)⟩ ?_
  rcases ka9 (gI b (ka1 a i ([] : List Int))) with hx3 | hx3
  ·refine kO [.no, .no, .call [] (bV true) [] 0 [] none] (Fun 96 [.c (.d (D.sl (kI b) m)), .c (.d (dl (ka1 a i ([] : List Int)) (ka0 (ka1 a i ([] : List Int)))))] (kH []) 0 (bV true) (kH []) 0) [(1, kG (kI b) m), (5, oV 1 0 q 1), (7, sV .i64 (ka1 a i ([] : List Int)) (ka0 (ka1 a i ([] : List Int)))), (8, kG (kI a) n), (9, uV n), (10, uV i), (16, bV true)] (by have h0 := (lQ b m (ka1 a i ([] : List Int)) (ka0 (ka1 a i ([] : List Int))) zo rfl zo bO (qD : MsW b)); rw [hx3] at h0; exact h0) ?_
   refine zt ?_
   refine aH [.no, .no, (.fz (.call [] (oV 0 0 (ka0 (ka1 a i ([] : List Int))) 1) [(0, some (3, .ds (dI .i64 (ka1 a i ([] : List Int)))))] 1 [] none)), .no, .ap none (q + 1) (kI (o ++ ([(ka1 a i ([] : List Int))] : List (List Int)))), .no] ((_) ∧ (((dI .i64 (ka1 a i ([] : List Int))) : List D).length = (ka0 (ka1 a i ([] : List Int))) * 1) ∧ ([dl (ka1 a i ([] : List Int)) (ka0 (ka1 a i ([] : List Int)))].length = 1 * 1) ∧ (((kI o) : List D).length = q * 1) ∧ ((q + 1) * 24 ≤ 140737488355328) ∧ (q + 1 = (q + 1)) ∧ (((kI o) : List D) ++ [dl (ka1 a i ([] : List Int)) (ka0 (ka1 a i ([] : List Int)))] = (kI (o ++ ([(ka1 a i ([] : List Int))] : List (List Int)))))) [(1, kG (kI b) m), (5, oV 4 0 (q + 1) 1), (8, kG (kI a) n), (9, uV n), (10, uV i)] [(4, some (23, .ds (kI (o ++ ([(ka1 a i ([] : List Int))] : List (List Int))))))] 5 ⟨(gR (ka1 a i ([] : List Int)) (ka0 (ka1 a i ([] : List Int))) rfl bO), dO, dO, dO, zo, zo, (bU o (ka1 a i ([] : List Int)) (ka0 (ka1 a i ([] : List Int))) (by first | rfl | omega))⟩ ?_
   refine uT [.w, .no] ((-9223372036854775808) ≤ ((i : Int) + 1) ∧ ((i : Int) + 1) ≤ 9223372036854775807) [(1, kG (kI b) m), (5, oV 4 0 (q + 1) 1), (8, kG (kI a) n), (9, uV n), (10, iV (↑i + 1))] ⟨by omega, by omega⟩ ?_
   exact kW ⟨(((i + 1) : Nat), ((q + 1) : Nat), ((o ++ ([(ka1 a i ([] : List Int))] : List (List Int))) : List (List Int))), ⟨a5, (by first | exact k48 ho (by assumption) | exact k49 ho (by assumption)), k1f, (by first | assumption | exact MsW.snoc (by assumption) zo)⟩⟩ [(1, 4)] (P := (kM (kI b)) ∧ (kJ m) ∧ (kJ 0) ∧ (kJ (q + 1)) ∧ (kM (kI a)) ∧ (kJ n) ∧ (kN (n : Int)) ∧ (((((i + 1) : Nat) : Int) : Int) = ((i : Int) + 1)) ∧ (kM (kI (o ++ ([(ka1 a i ([] : List Int))] : List (List Int)))))) zk ⟨rfl, rfl, rfl, rfl, rfl, rfl, rfl, bN, rfl⟩ (show n - (i + 1) < n - i from eO)
  ·refine kO [.no, .no, .call [] (bV false) [] 0 [] none] (Fun 96 [.c (.d (D.sl (kI b) m)), .c (.d (dl (ka1 a i ([] : List Int)) (ka0 (ka1 a i ([] : List Int)))))] (kH []) 0 (bV false) (kH []) 0) [(1, kG (kI b) m), (5, oV 1 0 q 1), (7, sV .i64 (ka1 a i ([] : List Int)) (ka0 (ka1 a i ([] : List Int)))), (8, kG (kI a) n), (9, uV n), (10, uV i), (16, bV false)] (by have h0 := (lQ b m (ka1 a i ([] : List Int)) (ka0 (ka1 a i ([] : List Int))) zo rfl zo bO (qD : MsW b)); rw [hx3] at h0; exact h0) ?_
   refine q8 ?_
   refine uT [.w, .no] ((-9223372036854775808) ≤ ((i : Int) + 1) ∧ ((i : Int) + 1) ≤ 9223372036854775807) [(1, kG (kI b) m), (5, oV 1 0 q 1), (8, kG (kI a) n), (9, uV n), (10, iV (↑i + 1))] ⟨by omega, by omega⟩ ?_
   exact kW ⟨(((i + 1) : Nat), (q : Nat), (o : List (List Int))), ⟨a5, (by first | exact k48 ho (by assumption) | exact k49 ho (by assumption)), k1f, (by first | assumption | exact MsW.snoc (by assumption) zo)⟩⟩ [] (P := (kM (kI b)) ∧ (kJ m) ∧ (kJ 0) ∧ (kJ q) ∧ (kM (kI a)) ∧ (kJ n) ∧ (kN (n : Int)) ∧ (((((i + 1) : Nat) : Int) : Int) = ((i : Int) + 1)) ∧ (kM (kI o))) zk ⟨rfl, rfl, rfl, rfl, rfl, rfl, rfl, bN, rfl⟩ (show n - (i + 1) < n - i from eO)
 ·refine kK [.b false] (¬ ((i : Int) < (n : Int))) [(1, kG (kI b) m), (5, oV 1 0 q 1), (8, kG (kI a) n), (9, uV n), (10, uV i), (11, bV false)] [(1, some (23, .ds (kI o)))] 2 zo ?_
  refine AW.seq ?_
  refine zf ?_
  refine AW.exit ?_
  refine kK [.no, .no] True [(4, oV 1 0 q 1)] [(1, some (23, .ds (kI o)))] 2 trivial ?_
  refine AW.freeze 1 (l' := [(4, kG (kI o) q)]) (g' := []) rfl (FzS.cons rfl (.e (.c (@FzC.own 1 ((kI o) : List D) 0 q 1 true ((kI o) : List D) k1h dO))) FzS.nil) FzG.nil ?_
  have hz1 : uJ a b n = o := by have h9 := ho; rw [show i = n by omega] at h9; exact h9
  refine AW.ret ?_
  exact kA (.inr rfl) [] (P := (((kI (uJ a b n)) : List D) = (kI o)) ∧ (((ka0 (uJ a b n)) : Nat) = q)) zk ⟨(by first | rfl | (rw [hz1]; done) | (rw [hz1]; rfl)), (by first | rfl | (rw [hz1]; omega) | omega)⟩
abbrev dW (k : Int) (r : List Int) (rn : Nat) (m : List (List Int)) (c : Nat) (s : List Int) (sn : Nat) : BC := .ds [iD k, D.sl (dI .i64 r) rn, D.sl (kI m) c, D.sl (dI .i64 s) sn]
abbrev dV (k2 : Int) (r2 : List Int) (rn2 : Nat) (m2 : List (List Int)) (c2 : Nat) (s2 : List Int) (sn2 : Nat) : BC := .ds [iD k2, D.sl (dI .i64 r2) rn2, D.sl (kI m2) c2, D.sl (dI .i64 s2) sn2]
theorem v30 (k : Int) (r : List Int) (rn : Nat) (m : List (List Int)) (c : Nat) (s : List Int) (sn : Nat) (k2 : Int) (r2 : List Int) (rn2 : Nat) (m2 : List (List Int)) (c2 : Nat) (s2 : List Int) (sn2 : Nat) (hr : ka0 r = rn * 2) (hs : ka0 s = sn * 2) (hc : ka0 m = c) (h1 : rn ≤ 1000000) (h2 : sn ≤ 1000000) (h3 : c ≤ 1000000) (hW : MsW m) (hr2 : ka0 r2 = rn2 * 2) (hs2 : ka0 s2 = sn2 * 2) (hc2 : ka0 m2 = c2) (h12 : rn2 ≤ 1000000) (h22 : sn2 ≤ 1000000) (h32 : c2 ≤ 1000000) (hW2 : MsW m2) : Fun 73 [.agg [iC k, .d (D.sl (dI .i64 r) rn), .d (D.sl (kI m) c), .d (D.sl (dI .i64 s) sn)], .agg [iC k2, .d (D.sl (dI .i64 r2) rn2), .d (D.sl (kI m2) c2), .d (D.sl (dI .i64 s2) sn2)]] (kH []) 0 (iV (x3 k r rn m c s sn k2 r2 rn2 m2 s2 sn2)) (kH []) 0 := by
 refine Fun.mk (n := 44) Tryz.func73 rfl rfl (ka4 rfl) ?_
 intro cx hcx
 refine kK [.no, .no, .no] True [(2, rV 0 0), (3, rV 1 0)] [(0, some (59, (dW k r rn m c s sn))), (1, some (59, (dV k2 r2 rn2 m2 c2 s2 sn2)))] 2 trivial ?_
 refine kO [.no] True [(2, rV 0 0), (3, rV 1 0), (5, iV 0)] trivial ?_
 refine dN hcx [(2, rV 0 0), (3, rV 1 0), (5, iV (yT k k2))] [(0, some (59, (dW k r rn m c s sn))), (1, some (59, (dV k2 r2 rn2 m2 c2 s2 sn2)))] 2 ?_ ?_
 ·by_cases hx2 : ((qK k k2) ≠ 0)
  ·have hx3 : (qK k k2 = 0 ∧ yT k k2 = 0) ∨ (¬ qK k k2 = 0 ∧ yT k k2 = 1) := m8 _ _
   refine kK (qE 4 [.i (qK k k2), .b true]) ((qG .and .i64 k k2 = (qK k k2)) ∧ (((qK k k2) ≠ 0))) [(2, rV 0 0), (3, rV 1 0), (5, iV 0), (11, bV true)] [(0, some (59, (dW k r rn m c s sn))), (1, some (59, (dV k2 r2 rn2 m2 c2 s2 sn2)))] 2 ⟨rfl, zo⟩ ?_
   refine zt ?_
   refine uT [.no, .i 1, .no] (qG .or .i64 0 1 = 1) [(2, rV 0 0), (3, rV 1 0), (5, iV 1)] (by decide) ?_
   exact kW () [] (P := (kJ 0) ∧ (kJ 0) ∧ (((yT k k2) : Int) = 1) ∧ (kM [iD k, dl r rn, D.sl (kI m) c, dl s sn]) ∧ (kM [iD k2, dl r2 rn2, D.sl (kI m2) c2, dl s2 sn2])) zk ⟨rfl, rfl, bN, rfl, rfl⟩ True.intro
  ·have hx4 : (qK k k2 = 0 ∧ yT k k2 = 0) ∨ (¬ qK k k2 = 0 ∧ yT k k2 = 1) := m8 _ _
   refine kK (qE 4 [.i (qK k k2), .b false]) ((qG .and .i64 k k2 = (qK k k2)) ∧ (¬ ((qK k k2) ≠ 0))) [(2, rV 0 0), (3, rV 1 0), (5, iV 0), (11, bV false)] [(0, some (59, (dW k r rn m c s sn))), (1, some (59, (dV k2 r2 rn2 m2 c2 s2 sn2)))] 2 ⟨rfl, zo⟩ ?_
   refine q8 ?_
   exact kW () [] (P := (kJ 0) ∧ (kJ 0) ∧ (((yT k k2) : Int) = 0) ∧ (kM [iD k, dl r rn, D.sl (kI m) c, dl s sn]) ∧ (kM [iD k2, dl r2 rn2, D.sl (kI m2) c2, dl s2 sn2])) zk ⟨rfl, rfl, bN, rfl, rfl⟩ True.intro
 ·refine dN hcx [(2, rV 0 0), (3, rV 1 0), (5, iV (oS (yT k k2) (qM (kC r rn) (kC r2 rn2)) 2))] [(0, some (59, (dW k r rn m c s sn))), (1, some (59, (dV k2 r2 rn2 m2 c2 s2 sn2)))] 2 ?_ ?_
  ·by_cases hx9 : ((0 : Int) < (((qM (kC r rn) (kC r2 rn2)) : Nat) : Int))
   ·have hx10 : ((qM (kC r rn) (kC r2 rn2) : Nat) = 0 ∧ oS (yT k k2) (qM (kC r rn) (kC r2 rn2)) 2 = yT k k2) ∨ (1 ≤ qM (kC r rn) (kC r2 rn2) ∧ oS (yT k k2) (qM (kC r rn) (kC r2 rn2)) 2 = yT k k2 + 2) := nL _ _ _
    have hx11 : 0 ≤ yT k k2 ∧ yT k k2 ≤ 1 := (by have h9 := m8 k k2; omega)
    have hx12 : ((ka0 (uM (kC r rn) (kC r2 rn2))) = ((qM (kC r rn) (kC r2 rn2)) * 2)) := uR _ _
    have hx13 : ((qM (kC r rn) (kC r2 rn2)) ≤ 64) := aO _ _
    refine kK (qE 4 [.call [] (.e (.agg [.d (dl (uM (kC r rn) (kC r2 rn2)) (qM (kC r rn) (kC r2 rn2)))])) [] 0 [] none, .no, .no, .b true]) ((_) ∧ (((0 : Int) < (qM (kC r rn) (kC r2 rn2) : Int)))) [(2, rV 0 0), (3, rV 1 0), (5, iV (yT k k2)), (21, bV true)] [(0, some (59, (dW k r rn m c s sn))), (1, some (59, (dV k2 r2 rn2 m2 c2 s2 sn2)))] 2 ⟨(iI r r2 rn rn2 zo zo zo zo), zo⟩ ?_
    refine zt ?_
    refine uT [.no, .i ((yT k k2) + 2), .no] (qG .or .i64 (yT k k2) 2 = ((yT k k2) + 2)) [(2, rV 0 0), (3, rV 1 0), (5, iV ((yT k k2) + 2))] (v24 zo) ?_
    exact kW () [] (P := (kJ 0) ∧ (kJ 0) ∧ (((oS (yT k k2) (qM (kC r rn) (kC r2 rn2)) 2) : Int) = ((yT k k2) + 2)) ∧ (kM [iD k, dl r rn, D.sl (kI m) c, dl s sn]) ∧ (kM [iD k2, dl r2 rn2, D.sl (kI m2) c2, dl s2 sn2])) zk ⟨rfl, rfl, bN, rfl, rfl⟩ True.intro
   ·have hx14 : ((qM (kC r rn) (kC r2 rn2) : Nat) = 0 ∧ oS (yT k k2) (qM (kC r rn) (kC r2 rn2)) 2 = yT k k2) ∨ (1 ≤ qM (kC r rn) (kC r2 rn2) ∧ oS (yT k k2) (qM (kC r rn) (kC r2 rn2)) 2 = yT k k2 + 2) := nL _ _ _
    have hx15 : 0 ≤ yT k k2 ∧ yT k k2 ≤ 1 := (by have h9 := m8 k k2; omega)
    have hx16 : ((ka0 (uM (kC r rn) (kC r2 rn2))) = ((qM (kC r rn) (kC r2 rn2)) * 2)) := uR _ _
    have hx17 : ((qM (kC r rn) (kC r2 rn2)) ≤ 64) := aO _ _
    refine kK (qE 4 [.call [] (.e (.agg [.d (dl (uM (kC r rn) (kC r2 rn2)) (qM (kC r rn) (kC r2 rn2)))])) [] 0 [] none, .no, .no, .b false]) ((_) ∧ (¬ ((0 : Int) < (qM (kC r rn) (kC r2 rn2) : Int)))) [(2, rV 0 0), (3, rV 1 0), (5, iV (yT k k2)), (21, bV false)] [(0, some (59, (dW k r rn m c s sn))), (1, some (59, (dV k2 r2 rn2 m2 c2 s2 sn2)))] 2 ⟨(iI r r2 rn rn2 zo zo zo zo), zo⟩ ?_
    refine q8 ?_
    exact kW () [] (P := (kJ 0) ∧ (kJ 0) ∧ (((oS (yT k k2) (qM (kC r rn) (kC r2 rn2)) 2) : Int) = (yT k k2)) ∧ (kM [iD k, dl r rn, D.sl (kI m) c, dl s sn]) ∧ (kM [iD k2, dl r2 rn2, D.sl (kI m2) c2, dl s2 sn2])) zk ⟨rfl, rfl, bN, rfl, rfl⟩ True.intro
  ·refine dN hcx [(2, rV 0 0), (3, rV 1 0), (5, iV (oS (oS (yT k k2) (qM (kC r rn) (kC r2 rn2)) 2) (ka0 (uJ m m2 c)) 4))] [(0, some (59, (dW k r rn m c s sn))), (1, some (59, (dV k2 r2 rn2 m2 c2 s2 sn2)))] 2 ?_ ?_
   ·by_cases hx21 : ((0 : Int) < (((ka0 (uJ m m2 c)) : Nat) : Int))
    ·have hx22 : ((ka0 (uJ m m2 c) : Nat) = 0 ∧ oS (oS (yT k k2) (qM (kC r rn) (kC r2 rn2)) 2) (ka0 (uJ m m2 c)) 4 = oS (yT k k2) (qM (kC r rn) (kC r2 rn2)) 2) ∨ (1 ≤ ka0 (uJ m m2 c) ∧ oS (oS (yT k k2) (qM (kC r rn) (kC r2 rn2)) 2) (ka0 (uJ m m2 c)) 4 = oS (yT k k2) (qM (kC r rn) (kC r2 rn2)) 2 + 4) := nL _ _ _
     have hx23 : 0 ≤ oS (yT k k2) (qM (kC r rn) (kC r2 rn2)) 2 ∧ oS (yT k k2) (qM (kC r rn) (kC r2 rn2)) 2 ≤ 3 := (by have h9 := m8 k k2; have h8 := nL (yT k k2) (qM (kC r rn) (kC r2 rn2)) 2; omega)
     have hx24 : ((ka0 (uJ m m2 c)) ≤ c) := bT m m2 c
     refine kK (qE 4 [.call [] (kG (kI (uJ m m2 c)) (ka0 (uJ m m2 c))) [] 0 [] none, .no, .b true]) ((_) ∧ (((0 : Int) < (ka0 (uJ m m2 c) : Int)))) [(2, rV 0 0), (3, rV 1 0), (5, iV (oS (yT k k2) (qM (kC r rn) (kC r2 rn2)) 2)), (30, bV true)] [(0, some (59, (dW k r rn m c s sn))), (1, some (59, (dV k2 r2 rn2 m2 c2 s2 sn2)))] 2 ⟨(k5y m m2 c c2 zo zo zo zo (qD : MsW m) (qD : MsW m2)), zo⟩ ?_
     refine zt ?_
     refine uT [.no, .i ((oS (yT k k2) (qM (kC r rn) (kC r2 rn2)) 2) + 4), .no] (qG .or .i64 (oS (yT k k2) (qM (kC r rn) (kC r2 rn2)) 2) 4 = ((oS (yT k k2) (qM (kC r rn) (kC r2 rn2)) 2) + 4)) [(2, rV 0 0), (3, rV 1 0), (5, iV ((oS (yT k k2) (qM (kC r rn) (kC r2 rn2)) 2) + 4))] (v23 zo) ?_
     exact kW () [] (P := (kJ 0) ∧ (kJ 0) ∧ (((oS (oS (yT k k2) (qM (kC r rn) (kC r2 rn2)) 2) (ka0 (uJ m m2 c)) 4) : Int) = ((oS (yT k k2) (qM (kC r rn) (kC r2 rn2)) 2) + 4)) ∧ (kM [iD k, dl r rn, D.sl (kI m) c, dl s sn]) ∧ (kM [iD k2, dl r2 rn2, D.sl (kI m2) c2, dl s2 sn2])) zk ⟨rfl, rfl, bN, rfl, rfl⟩ True.intro
    ·have hx25 : ((ka0 (uJ m m2 c) : Nat) = 0 ∧ oS (oS (yT k k2) (qM (kC r rn) (kC r2 rn2)) 2) (ka0 (uJ m m2 c)) 4 = oS (yT k k2) (qM (kC r rn) (kC r2 rn2)) 2) ∨ (1 ≤ ka0 (uJ m m2 c) ∧ oS (oS (yT k k2) (qM (kC r rn) (kC r2 rn2)) 2) (ka0 (uJ m m2 c)) 4 = oS (yT k k2) (qM (kC r rn) (kC r2 rn2)) 2 + 4) := nL _ _ _
     have hx26 : 0 ≤ oS (yT k k2) (qM (kC r rn) (kC r2 rn2)) 2 ∧ oS (yT k k2) (qM (kC r rn) (kC r2 rn2)) 2 ≤ 3 := (by have h9 := m8 k k2; have h8 := nL (yT k k2) (qM (kC r rn) (kC r2 rn2)) 2; omega)
     have hx27 : ((ka0 (uJ m m2 c)) ≤ c) := bT m m2 c
     refine kK (qE 4 [.call [] (kG (kI (uJ m m2 c)) (ka0 (uJ m m2 c))) [] 0 [] none, .no, .b false]) ((_) ∧ (¬ ((0 : Int) < (ka0 (uJ m m2 c) : Int)))) [(2, rV 0 0), (3, rV 1 0), (5, iV (oS (yT k k2) (qM (kC r rn) (kC r2 rn2)) 2)), (30, bV false)] [(0, some (59, (dW k r rn m c s sn))), (1, some (59, (dV k2 r2 rn2 m2 c2 s2 sn2)))] 2 ⟨(k5y m m2 c c2 zo zo zo zo (qD : MsW m) (qD : MsW m2)), zo⟩ ?_
     refine q8 ?_
     exact kW () [] (P := (kJ 0) ∧ (kJ 0) ∧ (((oS (oS (yT k k2) (qM (kC r rn) (kC r2 rn2)) 2) (ka0 (uJ m m2 c)) 4) : Int) = (oS (yT k k2) (qM (kC r rn) (kC r2 rn2)) 2)) ∧ (kM [iD k, dl r rn, D.sl (kI m) c, dl s sn]) ∧ (kM [iD k2, dl r2 rn2, D.sl (kI m2) c2, dl s2 sn2])) zk ⟨rfl, rfl, bN, rfl, rfl⟩ True.intro
   ·refine dN hcx [(5, iV (oS (oS (oS (yT k k2) (qM (kC r rn) (kC r2 rn2)) 2) (ka0 (uJ m m2 c)) 4) (qM (kC s sn) (kC s2 sn2)) 8))] [] 2 ?_ ?_
    ·by_cases hx32 : ((0 : Int) < (((qM (kC s sn) (kC s2 sn2)) : Nat) : Int))
     ·have hx33 : ((qM (kC s sn) (kC s2 sn2) : Nat) = 0 ∧ oS (oS (oS (yT k k2) (qM (kC r rn) (kC r2 rn2)) 2) (ka0 (uJ m m2 c)) 4) (qM (kC s sn) (kC s2 sn2)) 8 = oS (oS (yT k k2) (qM (kC r rn) (kC r2 rn2)) 2) (ka0 (uJ m m2 c)) 4) ∨ (1 ≤ qM (kC s sn) (kC s2 sn2) ∧ oS (oS (oS (yT k k2) (qM (kC r rn) (kC r2 rn2)) 2) (ka0 (uJ m m2 c)) 4) (qM (kC s sn) (kC s2 sn2)) 8 = oS (oS (yT k k2) (qM (kC r rn) (kC r2 rn2)) 2) (ka0 (uJ m m2 c)) 4 + 8) := nL _ _ _
      have hx34 : 0 ≤ oS (oS (yT k k2) (qM (kC r rn) (kC r2 rn2)) 2) (ka0 (uJ m m2 c)) 4 ∧ oS (oS (yT k k2) (qM (kC r rn) (kC r2 rn2)) 2) (ka0 (uJ m m2 c)) 4 ≤ 7 := (by have h9 := m8 k k2; have h8 := nL (yT k k2) (qM (kC r rn) (kC r2 rn2)) 2; have h7 := nL (oS (yT k k2) (qM (kC r rn) (kC r2 rn2)) 2) (ka0 (uJ m m2 c)) 4; omega)
      have hx35 : ((ka0 (uM (kC s sn) (kC s2 sn2))) = ((qM (kC s sn) (kC s2 sn2)) * 2)) := uR _ _
      have hx36 : ((qM (kC s sn) (kC s2 sn2)) ≤ 64) := aO _ _
      refine kK (qE 4 [.call [] (.e (.agg [.d (dl (uM (kC s sn) (kC s2 sn2)) (qM (kC s sn) (kC s2 sn2)))])) [] 0 [] none, .no, .no, .b true]) ((_) ∧ (((0 : Int) < (qM (kC s sn) (kC s2 sn2) : Int)))) [(5, iV (oS (oS (yT k k2) (qM (kC r rn) (kC r2 rn2)) 2) (ka0 (uJ m m2 c)) 4)), (40, bV true)] [] 2 ⟨(iI s s2 sn sn2 zo zo zo zo), zo⟩ ?_
      refine zt ?_
      refine uT [.no, .i ((oS (oS (yT k k2) (qM (kC r rn) (kC r2 rn2)) 2) (ka0 (uJ m m2 c)) 4) + 8), .no] (qG .or .i64 (oS (oS (yT k k2) (qM (kC r rn) (kC r2 rn2)) 2) (ka0 (uJ m m2 c)) 4) 8 = ((oS (oS (yT k k2) (qM (kC r rn) (kC r2 rn2)) 2) (ka0 (uJ m m2 c)) 4) + 8)) [(5, iV ((oS (oS (yT k k2) (qM (kC r rn) (kC r2 rn2)) 2) (ka0 (uJ m m2 c)) 4) + 8))] (v22 zo) ?_
      exact kW () [] (P := (((oS (oS (oS (yT k k2) (qM (kC r rn) (kC r2 rn2)) 2) (ka0 (uJ m m2 c)) 4) (qM (kC s sn) (kC s2 sn2)) 8) : Int) = ((oS (oS (yT k k2) (qM (kC r rn) (kC r2 rn2)) 2) (ka0 (uJ m m2 c)) 4) + 8))) zk bN True.intro
     ·have hx37 : ((qM (kC s sn) (kC s2 sn2) : Nat) = 0 ∧ oS (oS (oS (yT k k2) (qM (kC r rn) (kC r2 rn2)) 2) (ka0 (uJ m m2 c)) 4) (qM (kC s sn) (kC s2 sn2)) 8 = oS (oS (yT k k2) (qM (kC r rn) (kC r2 rn2)) 2) (ka0 (uJ m m2 c)) 4) ∨ (1 ≤ qM (kC s sn) (kC s2 sn2) ∧ oS (oS (oS (yT k k2) (qM (kC r rn) (kC r2 rn2)) 2) (ka0 (uJ m m2 c)) 4) (qM (kC s sn) (kC s2 sn2)) 8 = oS (oS (yT k k2) (qM (kC r rn) (kC r2 rn2)) 2) (ka0 (uJ m m2 c)) 4 + 8) := nL _ _ _
      have hx38 : 0 ≤ oS (oS (yT k k2) (qM (kC r rn) (kC r2 rn2)) 2) (ka0 (uJ m m2 c)) 4 ∧ oS (oS (yT k k2) (qM (kC r rn) (kC r2 rn2)) 2) (ka0 (uJ m m2 c)) 4 ≤ 7 := (by have h9 := m8 k k2; have h8 := nL (yT k k2) (qM (kC r rn) (kC r2 rn2)) 2; have h7 := nL (oS (yT k k2) (qM (kC r rn) (kC r2 rn2)) 2) (ka0 (uJ m m2 c)) 4; omega)
      have hx39 : ((ka0 (uM (kC s sn) (kC s2 sn2))) = ((qM (kC s sn) (kC s2 sn2)) * 2)) := uR _ _
      have hx40 : ((qM (kC s sn) (kC s2 sn2)) ≤ 64) := aO _ _
      refine kK (qE 4 [.call [] (.e (.agg [.d (dl (uM (kC s sn) (kC s2 sn2)) (qM (kC s sn) (kC s2 sn2)))])) [] 0 [] none, .no, .no, .b false]) ((_) ∧ (¬ ((0 : Int) < (qM (kC s sn) (kC s2 sn2) : Int)))) [(5, iV (oS (oS (yT k k2) (qM (kC r rn) (kC r2 rn2)) 2) (ka0 (uJ m m2 c)) 4)), (40, bV false)] [] 2 ⟨(iI s s2 sn sn2 zo zo zo zo), zo⟩ ?_
      refine q8 ?_
      exact kW () [] (P := (((oS (oS (oS (yT k k2) (qM (kC r rn) (kC r2 rn2)) 2) (ka0 (uJ m m2 c)) 4) (qM (kC s sn) (kC s2 sn2)) 8) : Int) = (oS (oS (yT k k2) (qM (kC r rn) (kC r2 rn2)) 2) (ka0 (uJ m m2 c)) 4))) zk bN True.intro
    ·refine kK [.no, .no] True [(4, iV (oS (oS (oS (yT k k2) (qM (kC r rn) (kC r2 rn2)) 2) (ka0 (uJ m m2 c)) 4) (qM (kC s sn) (kC s2 sn2)) 8))] [] 2 trivial ?_
     refine AW.ret ?_
     exact kA (.inr rfl) [] (P := (((x3 k r rn m c s sn k2 r2 rn2 m2 s2 sn2) : Int) = (oS (oS (oS (yT k k2) (qM (kC r rn) (kC r2 rn2)) 2) (ka0 (uJ m m2 c)) 4) (qM (kC s sn) (kC s2 sn2)) 8))) zk (by first | rfl | omega)
theorem lV {p : Prop} (h : p := by first | exact decide_eq_true (by omega) | exact decide_eq_false (by omega)) : p := h
theorem v1h (l : List Int) (n : Nat) (v : Int) (hn : ka0 l = n) (h1 : n ≤ 1000000) : Fun 74 [.c (.d (D.sl (dI .i64 l) n)), iE v] (kH []) 0 (uP (D.lit (.bool (ctB l n v)))) (kH []) 0 := by
 refine Fun.mk (n := 9) Tryz.func74 rfl rfl (ka4 rfl) ?_
 intro cx hcx
 refine kK [.no] True [(0, sV .i64 l n), (1, iV v)] [] 0 trivial ?_
 by_cases hx2 : ((0 : Int) ≤ (qU l v n))
 ·have hx3 : ((((-1) : Int) ≤ (qU l v n)) ∧ ((qU l v n) < ((n : Nat) : Int))) := vH l v n
  refine kO [.no, .no, .call [] (iV (qU l v n)) [] 0 [] none, .b true, .no] ((_) ∧ (((0 : Int) ≤ (qU l v n)))) [(4, bV true)] ⟨(pT l n v zo zo), zo⟩ ?_
  refine AW.ret ?_
  exact kA (.inr rfl) [] (P := ((ctB l n v) = true)) zk lV
 ·have hx4 : ((((-1) : Int) ≤ (qU l v n)) ∧ ((qU l v n) < ((n : Nat) : Int))) := vH l v n
  refine kO [.no, .no, .call [] (iV (qU l v n)) [] 0 [] none, .b false, .no] ((_) ∧ (¬ ((0 : Int) ≤ (qU l v n)))) [(4, bV false)] ⟨(pT l n v zo zo), zo⟩ ?_
  refine AW.ret ?_
  exact kA (.inr rfl) [] (P := ((ctB l n v) = false)) zk lV
theorem u5a (d s : Int)  : Fun 75 [iE d, .c (.ptr 0 0)] (kH [(0, some (3, .ds [iD s]))]) 1 (uP (D.lit (.bool (stB d s)))) (kH [(0, some (3, .ds [iD s]))]) 1 := by
 refine Fun.mk (n := 9) Tryz.func75 rfl rfl (ka4 rfl) ?_
 intro cx hcx
 refine kK [.no] True [(0, iV d), (1, rV 0 0)] [(0, some (3, .ds [iD s]))] 1 trivial ?_
 by_cases hx1 : ((qK d s) = s)
 ·refine kO [.no, .no, .i (qK d s), .no, .b true, .no] ((qG .and .i64 d s = (qK d s)) ∧ (((qK d s) = s))) [(3, bV true)] ⟨rfl, zo⟩ ?_
  refine AW.ret ?_
  exact kA (.inr rfl) [] (P := ((stB d s) = true) ∧ (kM [iD s])) zk ⟨lV, rfl⟩
 ·refine kO [.no, .no, .i (qK d s), .no, .b false, .no] ((qG .and .i64 d s = (qK d s)) ∧ (¬ ((qK d s) = s))) [(3, bV false)] ⟨rfl, zo⟩ ?_
  refine AW.ret ?_
  exact kA (.inr rfl) [] (P := ((stB d s) = false) ∧ (kM [iD s])) zk ⟨lV, rfl⟩
theorem u59 (l : List Int) (n : Nat) (s : Int) (hn : ka0 l = n) (h1 : n ≤ 1000000) : Fun 119 [.c (.d (D.sl (dI .i64 l) n)), .c (.fn 75 [(0, 0)])] (kH [(0, some (3, .ds [iD s]))]) 1 (iV (mtK l s n)) (kH [(0, some (3, .ds [iD s]))]) 1 := by
 refine Fun.mk (n := 19) Tryz.func119 rfl rfl (ka4 rfl) ?_
 intro cx hcx
 refine kK [.no] True [(0, sV .i64 l n), (1, .e (.c (.fn 75 [(0, 0)])))] [(0, some (3, .ds [iD s]))] 1 trivial ?_
 refine AW.seq ?_
 refine kO [.no, .no, .no] True [(0, sV .i64 l n), (1, .e (.c (.fn 75 [(0, 0)]))), (7, uV n), (8, iV 0)] trivial ?_
 refine AW.block ?_
 refine kY 1 hcx (fun (x : {x : Nat // match x with | k => (k ≤ n) ∧ (mtK l s k = -1)}) => match x with | ⟨k, _⟩ => (⟨[(0, sV .i64 l n), (1, .e (.c (.fn 75 [(0, 0)]))), (7, uV n), (8, uV k)], [(0, some (3, .ds [iD s]))], 1⟩ : ES)) (fun x => match x with | ⟨k, _⟩ => n - k) ⟨(0 : Nat), ⟨a5, rfl⟩⟩ [] (P := (kM (dI .i64 l)) ∧ (kJ n) ∧ (kN (n : Int)) ∧ (kN 0) ∧ (kM [iD s])) zk ⟨rfl, rfl, rfl, rfl, rfl⟩ ?_
 rintro ⟨k, hinv0⟩
 obtain ⟨hk, hi⟩ : (k ≤ n) ∧ (mtK l s k = -1) := hinv0
 refine qR (l := [(0, sV .i64 l n), (1, .e (.c (.fn 75 [(0, 0)]))), (7, uV n), (8, uV k)]) (g := [(0, some (3, .ds [iD s]))]) (nx := 1) rfl rfl rfl ?_
 by_cases hx1 : (((k : Nat) : Int) < ((n : Nat) : Int))
 ·refine kK [.b true] (((k : Int) < (n : Int))) [(0, sV .i64 l n), (1, .e (.c (.fn 75 [(0, 0)]))), (7, uV n), (8, uV k), (9, bV true)] [(0, some (3, .ds [iD s]))] 1 zo ?_
  refine AW.seq ?_
  refine vB ?_
  refine AW.seq ?_
  refine AW.block ?_
  refine kO [.no, .no] True [(0, sV .i64 l n), (1, .e (.c (.fn 75 [(0, 0)]))), (5, uV k), (7, uV n), (8, uV k)] trivial ?_
  rcases ka9 (stB (ka1 l k 0) s) with hx2 | hx2
  ·refine kO [.no, .no, .no, .n k, .d (D.lit (.int .i64 (ka1 l k 0))), .call [0] (bV true) [(0, some (3, .ds [iD s]))] 1 [] none] ((kN (k : Int)) ∧ (k < n) ∧ ((ka3 k (dI .i64 l))[0]? = some (D.lit (.int .i64 (ka1 l k 0)))) ∧ (Fun 75 [iE (ka1 l k 0), .c (.ptr 0 0)] (kH [(0, some (3, .ds [iD s]))]) 1 (bV true) (kH [(0, some (3, .ds [iD s]))]) 1)) [(0, sV .i64 l n), (1, .e (.c (.fn 75 [(0, 0)]))), (5, uV k), (7, uV n), (8, uV k), (16, bV true)] ⟨rfl, zo, (q6 _ _ _ dO), (by have h0 := (u5a (ka1 l k 0) s); rw [hx2] at h0; exact h0)⟩ ?_
   refine zt ?_
   refine kO [.no, .no] True [(4, uV k)] trivial ?_
   refine AW.ret ?_
   exact kA (.inr rfl) [] (P := (((mtK l s n) : Int) = (k : Int)) ∧ (kM [iD s])) zk ⟨(by first | rfl | exact u48 hi (by assumption) zo | (rw [show n = k by omega]; exact hi) | omega), rfl⟩
  ·refine kO [.no, .no, .no, .n k, .d (D.lit (.int .i64 (ka1 l k 0))), .call [0] (bV false) [(0, some (3, .ds [iD s]))] 1 [] none] ((kN (k : Int)) ∧ (k < n) ∧ ((ka3 k (dI .i64 l))[0]? = some (D.lit (.int .i64 (ka1 l k 0)))) ∧ (Fun 75 [iE (ka1 l k 0), .c (.ptr 0 0)] (kH [(0, some (3, .ds [iD s]))]) 1 (bV false) (kH [(0, some (3, .ds [iD s]))]) 1)) [(0, sV .i64 l n), (1, .e (.c (.fn 75 [(0, 0)]))), (5, uV k), (7, uV n), (8, uV k), (16, bV false)] ⟨rfl, zo, (q6 _ _ _ dO), (by have h0 := (u5a (ka1 l k 0) s); rw [hx2] at h0; exact h0)⟩ ?_
   refine q8 ?_
   refine uT [.w, .no] ((-9223372036854775808) ≤ ((k : Int) + 1) ∧ ((k : Int) + 1) ≤ 9223372036854775807) [(0, sV .i64 l n), (1, .e (.c (.fn 75 [(0, 0)]))), (7, uV n), (8, iV (↑k + 1))] ⟨by omega, by omega⟩ ?_
   exact kW ⟨((k + 1) : Nat), ⟨a5, (u9v hi (by assumption))⟩⟩ [] (P := (kM (dI .i64 l)) ∧ (kJ n) ∧ (kN (n : Int)) ∧ (((((k + 1) : Nat) : Int) : Int) = ((k : Int) + 1)) ∧ (kM [iD s])) zk ⟨rfl, rfl, rfl, bN, rfl⟩ (show n - (k + 1) < n - k from eO)
 ·refine kK [.b false] (¬ ((k : Int) < (n : Int))) [(0, sV .i64 l n), (1, .e (.c (.fn 75 [(0, 0)]))), (7, uV n), (8, uV k), (9, bV false)] [(0, some (3, .ds [iD s]))] 1 zo ?_
  refine AW.seq ?_
  refine zf ?_
  refine AW.exit ?_
  refine kK [.no] True [(4, iV (-1))] [(0, some (3, .ds [iD s]))] 1 trivial ?_
  refine AW.ret ?_
  exact kA (.inr rfl) [] (P := (((mtK l s n) : Int) = (-1)) ∧ (kM [iD s])) zk ⟨(by first | rfl | exact u48 hi (by assumption) zo | (rw [show n = k by omega]; exact hi) | omega), rfl⟩
theorem u8a (l : List Int) (n : Nat) (s : Int) (hn : ka0 l = n) (h1 : n ≤ 1000000) : Fun 76 [.c (.d (D.sl (dI .i64 l) n)), .c (.fn 75 [(0, 0)])] (kH [(0, some (3, .ds [iD s]))]) 1 (uP (D.lit (.bool (x8 l n s)))) (kH [(0, some (3, .ds [iD s]))]) 1 := by
 refine Fun.mk (n := 9) Tryz.func76 rfl rfl (ka4 rfl) ?_
 intro cx hcx
 refine kK [.no] True [(0, sV .i64 l n), (1, .e (.c (.fn 75 [(0, 0)])))] [(0, some (3, .ds [iD s]))] 1 trivial ?_
 by_cases hx1 : ((0 : Int) ≤ (mtK l s n))
 ·refine kO [.no, .no, .call [0] (iV (mtK l s n)) [(0, some (3, .ds [iD s]))] 1 [] none, .b true, .no] ((_) ∧ (((0 : Int) ≤ (mtK l s n)))) [(4, bV true)] ⟨(u59 l n s zo zo), zo⟩ ?_
  refine AW.ret ?_
  exact kA (.inr rfl) [] (P := ((x8 l n s) = true) ∧ (kM [iD s])) zk ⟨lV, rfl⟩
 ·refine kO [.no, .no, .call [0] (iV (mtK l s n)) [(0, some (3, .ds [iD s]))] 1 [] none, .b false, .no] ((_) ∧ (¬ ((0 : Int) ≤ (mtK l s n)))) [(4, bV false)] ⟨(u59 l n s zo zo), zo⟩ ?_
  refine AW.ret ?_
  exact kA (.inr rfl) [] (P := ((x8 l n s) = false) ∧ (kM [iD s])) zk ⟨lV, rfl⟩
theorem u89 (x : Int) (h1 : 0 ≤ x ∧ x ≤ 15) : Fun 121 [.c (.d (D.lit (.int .u64 x)))] (kH []) 0 (iV (uY x)) (kH []) 0 := by
 have hxr : (0 ≤ x7 x ∧ x7 x ≤ 5) ∧ (0 ≤ x6 x ∧ x6 x ≤ 5) ∧ (0 ≤ sF x ∧ sF x ≤ 2) ∧ (0 ≤ sE x ∧ sE x ≤ 2) ∧ 0 ≤ uY x ∧ uY x ≤ 4 := v25 h1
 refine Fun.mk (n := 35) Tryz.func121 rfl rfl (ka4 rfl) ?_
 intro cx hcx
 refine kK [.no] True [(0, uP (D.lit (.int .u64 x)))] [] 0 trivial ?_
 refine kO [.no, .n 1, .i (x7 x), .no, .i (x6 x), .w, .no] ((kN 1) ∧ ((1 : Nat) ≤ 64) ∧ (qG .and .u64 (x / 2) 6148914691236517205 = (x7 x)) ∧ (qG .and .u64 x 6148914691236517205 = (x6 x)) ∧ (0 ≤ ((x7 x) + (x6 x)) ∧ ((x7 x) + (x6 x)) ≤ 18446744073709551615)) [(0, uP (D.lit (.int .u64 ((x7 x) + (x6 x)))))] ⟨rfl, zo, (v2b h1), (v2a h1), ⟨by omega, by omega⟩⟩ ?_
 refine kO [.no, .n 2, .i (sF x), .no, .i (sE x), .w, .no] ((kN 2) ∧ ((2 : Nat) ≤ 64) ∧ (qG .and .u64 (((x7 x) + (x6 x)) / 4) 3689348814741910323 = (sF x)) ∧ (qG .and .u64 ((x7 x) + (x6 x)) 3689348814741910323 = (sE x)) ∧ (0 ≤ ((sF x) + (sE x)) ∧ ((sF x) + (sE x)) ≤ 18446744073709551615)) [(0, uP (D.lit (.int .u64 ((sF x) + (sE x)))))] ⟨rfl, zo, (v29 h1), (v28 h1), ⟨by omega, by omega⟩⟩ ?_
 refine kO [.no, .n 4, .no, .w, .i (uY x), .no] ((kN 4) ∧ ((4 : Nat) ≤ 64) ∧ (0 ≤ ((((sF x) + (sE x)) / 16) + ((sF x) + (sE x))) ∧ ((((sF x) + (sE x)) / 16) + ((sF x) + (sE x))) ≤ 18446744073709551615) ∧ (qG .and .u64 ((((sF x) + (sE x)) / 16) + ((sF x) + (sE x))) 1085102592571150095 = (uY x))) [(0, uP (D.lit (.int .u64 (uY x))))] ⟨rfl, zo, ⟨by omega, by omega⟩, (v27 h1 zo)⟩ ?_
 refine kO [.no, .no, .n 8, .w, .no] ((kN 8) ∧ ((8 : Nat) ≤ 64) ∧ (0 ≤ ((uY x) + ((uY x) / 256)) ∧ ((uY x) + ((uY x) / 256)) ≤ 18446744073709551615)) [(0, uP (D.lit (.int .u64 ((uY x) + ((uY x) / 256)))))] ⟨rfl, zo, ⟨by omega, by omega⟩⟩ ?_
 refine kO [.no, .no, .n 16, .w, .no] ((kN 16) ∧ ((16 : Nat) ≤ 64) ∧ (0 ≤ (((uY x) + ((uY x) / 256)) + (((uY x) + ((uY x) / 256)) / 65536)) ∧ (((uY x) + ((uY x) / 256)) + (((uY x) + ((uY x) / 256)) / 65536)) ≤ 18446744073709551615)) [(0, uP (D.lit (.int .u64 (((uY x) + ((uY x) / 256)) + (((uY x) + ((uY x) / 256)) / 65536)))))] ⟨rfl, zo, ⟨by omega, by omega⟩⟩ ?_
 refine kO [.no, .no, .n 32, .w, .no] ((kN 32) ∧ ((32 : Nat) ≤ 64) ∧ (0 ≤ ((((uY x) + ((uY x) / 256)) + (((uY x) + ((uY x) / 256)) / 65536)) + ((((uY x) + ((uY x) / 256)) + (((uY x) + ((uY x) / 256)) / 65536)) / 4294967296)) ∧ ((((uY x) + ((uY x) / 256)) + (((uY x) + ((uY x) / 256)) / 65536)) + ((((uY x) + ((uY x) / 256)) + (((uY x) + ((uY x) / 256)) / 65536)) / 4294967296)) ≤ 18446744073709551615)) [(0, uP (D.lit (.int .u64 ((((uY x) + ((uY x) / 256)) + (((uY x) + ((uY x) / 256)) / 65536)) + ((((uY x) + ((uY x) / 256)) + (((uY x) + ((uY x) / 256)) / 65536)) / 4294967296)))))] ⟨rfl, zo, ⟨by omega, by omega⟩⟩ ?_
 refine kO [.no, .w, .i (uY x), .no] (((-9223372036854775808) ≤ ((((uY x) + ((uY x) / 256)) + (((uY x) + ((uY x) / 256)) / 65536)) + ((((uY x) + ((uY x) / 256)) + (((uY x) + ((uY x) / 256)) / 65536)) / 4294967296)) ∧ ((((uY x) + ((uY x) / 256)) + (((uY x) + ((uY x) / 256)) / 65536)) + ((((uY x) + ((uY x) / 256)) + (((uY x) + ((uY x) / 256)) / 65536)) / 4294967296)) ≤ 9223372036854775807) ∧ (qG .and .i64 ((((uY x) + ((uY x) / 256)) + (((uY x) + ((uY x) / 256)) / 65536)) + ((((uY x) + ((uY x) / 256)) + (((uY x) + ((uY x) / 256)) / 65536)) / 4294967296)) 127 = (uY x))) [(2, iV (uY x))] ⟨⟨by omega, by omega⟩, (v26 h1 zo)⟩ ?_
 refine AW.ret ?_
 exact kA (.inr rfl) [] (P := (kN (uY x))) zk rfl
theorem u3p (x : Int) (h1 : 0 ≤ x ∧ x ≤ 15) : Fun 77 [.c (.d (D.lit (.int .u64 x)))] (kH []) 0 (iV (uY x)) (kH []) 0 := by
 refine Fun.mk (n := 8) Tryz.func77 rfl rfl (ka4 rfl) ?_
 intro cx hcx
 refine kK [.no] True [(0, uP (D.lit (.int .u64 x)))] [] 0 trivial ?_
 refine AW.seq ?_
 refine m7 (.lit rfl) ?_
 refine AW.skip ?_
 refine kO [.no, .call [] (iV (uY x)) [] 0 [] none, .no] _ [(2, iV (uY x))] (u89 x zo) ?_
 refine AW.ret ?_
 exact kA (.inr rfl) [] (P := (kN (uY x))) zk rfl
abbrev e8 (a : List Bx) (i : Nat) : BC := .ds [iD (kQ (kF a) i), D.sl (dI .i64 (kZ (kF a) i)) (kX (kF a) i), D.sl (kI (kL (kF a) i)) (ka0 (kL (kF a) i)), D.sl (dI .i64 (qA (kF a) i)) (k8 (kF a) i)]
theorem iK (a b : List Bx) (n m : Nat) (hn : ka0 a = n) (hm : ka0 b = m) (h1 : n ≤ 1000) (h2 : m ≤ 1000) (hW : BsW a) (hV : BsW b) : Fun 31 [.c (.d (D.sl (kE a) n)), .c (.d (D.sl (kE b) m))] (kH []) 0 (iV (qN a b)) (kH []) 0 := by
 have hL1 : ka0 (kF a) ≤ 64 ∧ ka0 (kF b) ≤ 64 := ⟨u0c a, u0c b⟩
 refine Fun.mk (n := 63) Tryz.func31 rfl rfl (ka4 rfl) ?_
 intro cx hcx
 refine kK [.no] True [(0, kG (kE a) n), (1, kG (kE b) m)] [] 0 trivial ?_
 refine kO [.no] True [(0, kG (kE a) n), (1, kG (kE b) m), (5, nV)] trivial ?_
 refine AW.seq ?_
 have hx1 : ((ka0 (kF a)) ≤ n) := (by have h9 := mV a; omega)
 refine kO [.no, .call [] (kG (kE (kF a)) (ka0 (kF a))) [] 0 [] none, .no, .no] _ [(1, kG (kE b) m), (5, nV), (14, kG (kE (kF a)) (ka0 (kF a))), (15, uV (ka0 (kF a))), (16, iV 0)] (oH a n zo zo (qD : BsW a)) ?_
 refine AW.block ?_
 refine AW.adoptS 5 1 3 rfl ?_
 refine kY 0 hcx (fun (x : {x : Nat × Nat × List Int // match x with | (i, q, o) => (i ≤ ka0 (kF a)) ∧ (dA (kF a) (kF b) i = o) ∧ (ka0 o = q) ∧ (q ≤ i * 64)}) => match x with | ⟨(i, q, o), _⟩ => (⟨[(1, kG (kE b) m), (5, oV 1 0 q 1), (14, kG (kE (kF a)) (ka0 (kF a))), (15, uV (ka0 (kF a))), (16, uV i)], [(1, some (3, .ds (dI .i64 o)))], 2⟩ : ES)) (fun x => match x with | ⟨(i, q, o), _⟩ => ka0 (kF a) - i) ⟨((0 : Nat), (0 : Nat), (([] : List Int) : List Int)), ⟨a5, rfl, rfl, zo⟩⟩ [(1, 0)] (P := (kM (kE b)) ∧ (kJ m) ∧ (kJ 0) ∧ (kJ 0) ∧ (kM (kE (kF a))) ∧ (kJ (ka0 (kF a))) ∧ (kN (ka0 (kF a) : Int)) ∧ (kN 0) ∧ (((dI .i64 ([] : List Int)) : List D) = ([] : List D))) zk ⟨rfl, rfl, rfl, rfl, rfl, rfl, rfl, rfl, (by first | rfl | with_reducible assumption)⟩ ?_
 rintro ⟨⟨i, q, o⟩, hinv0⟩
 obtain ⟨hi, ho, hq, hqm⟩ : (i ≤ ka0 (kF a)) ∧ (dA (kF a) (kF b) i = o) ∧ (ka0 o = q) ∧ (q ≤ i * 64) := hinv0
 refine qR (l := [(1, kG (kE b) m), (5, oV 1 0 q 1), (14, kG (kE (kF a)) (ka0 (kF a))), (15, uV (ka0 (kF a))), (16, uV i)]) (g := [(1, some (3, .ds (dI .i64 o)))]) (nx := 2) rfl rfl rfl ?_
 by_cases hx2 : (((i : Nat) : Int) < (((ka0 (kF a)) : Nat) : Int))
 ·refine kK [.b true] (((i : Int) < (ka0 (kF a) : Int))) [(1, kG (kE b) m), (5, oV 1 0 q 1), (14, kG (kE (kF a)) (ka0 (kF a))), (15, uV (ka0 (kF a))), (16, uV i), (17, bV true)] [(1, some (3, .ds (dI .i64 o)))] 2 zo ?_
  refine AW.seq ?_
  refine vB ?_
  refine AW.seq ?_
  refine AW.block ?_
  obtain ⟨hx3, hx4, hx5, hx6, hx7⟩ := BsW.at (bK (qD : BsW a)) (i)
  have hx8 : ((1 : Nat) ≤ (ka0 (kL (kF a) i))) := mU zo
  refine kK [.n i, .ds [iD (kQ (kF a) i), dl (kZ (kF a) i) (kX (kF a) i), D.sl (kI (kL (kF a) i)) (ka0 (kL (kF a) i)), dl (qA (kF a) i) (k8 (kF a) i)], .no, .no] ((kN (i : Int)) ∧ (i < (ka0 (kF a))) ∧ (List.take 4 (ka3 (i * 4) (kE (kF a))) = [iD (kQ (kF a) i), dl (kZ (kF a) i) (kX (kF a) i), D.sl (kI (kL (kF a) i)) (ka0 (kL (kF a) i)), dl (qA (kF a) i) (k8 (kF a) i)]) ∧ (([iD (kQ (kF a) i), dl (kZ (kF a) i) (kX (kF a) i), D.sl (kI (kL (kF a) i)) (ka0 (kL (kF a) i)), dl (qA (kF a) i) (k8 (kF a) i)] : List D).length = 4)) [(1, kG (kE b) m), (5, oV 1 0 q 1), (7, rV 2 0), (14, kG (kE (kF a)) (ka0 (kF a))), (15, uV (ka0 (kF a))), (16, uV i)] [(1, some (3, .ds (dI .i64 o))), (2, some (59, (e8 a i)))] 3 ⟨rfl, zo, (yV k1g), rfl⟩ ?_
  have hx9 : ((ka0 (kF b)) ≤ m) := (by have h9 := mV b; omega)
  refine kO [.no, .call [] (kG (kE (kF b)) (ka0 (kF b))) [] 0 [] none, .no, .no] _ [(1, kG (kE b) m), (5, oV 1 0 q 1), (7, rV 2 0), (14, kG (kE (kF a)) (ka0 (kF a))), (15, uV (ka0 (kF a))), (16, uV i), (21, kG (kE (kF b)) (ka0 (kF b))), (22, uV (ka0 (kF b))), (23, iV 0)] (oH b m zo zo (qD : BsW b)) ?_
  refine AW.block ?_
  refine kY 0 hcx (fun (x : {x : Nat × Nat × List Int // match x with | (j, p, x) => (j ≤ ka0 (kF b)) ∧ (prJ (kF a) (kF b) i j = x) ∧ (ka0 x = p) ∧ (p ≤ i * 64 + j)}) => match x with | ⟨(j, p, x), _⟩ => (⟨[(1, kG (kE b) m), (5, oV 3 0 p 1), (7, rV 2 0), (14, kG (kE (kF a)) (ka0 (kF a))), (15, uV (ka0 (kF a))), (16, uV i), (21, kG (kE (kF b)) (ka0 (kF b))), (22, uV (ka0 (kF b))), (23, uV j)], [(3, some (3, .ds (dI .i64 x))), (2, some (59, (e8 a i)))], 4⟩ : ES)) (fun x => match x with | ⟨(j, p, x), _⟩ => ka0 (kF b) - j) ⟨((0 : Nat), (q : Nat), (o : List Int)), ⟨a5, (u9f ho), (by first | assumption | omega), zo⟩⟩ [(3, 1)] (P := (kM (kE b)) ∧ (kJ m) ∧ (kJ 0) ∧ (kJ q) ∧ (kJ 0) ∧ (kM (kE (kF a))) ∧ (kJ (ka0 (kF a))) ∧ (kN (ka0 (kF a) : Int)) ∧ (kN (i : Int)) ∧ (kM (kE (kF b))) ∧ (kJ (ka0 (kF b))) ∧ (kN (ka0 (kF b) : Int)) ∧ (kN 0) ∧ (kM (dI .i64 o)) ∧ (kM [iD (kQ (kF a) i), dl (kZ (kF a) i) (kX (kF a) i), D.sl (kI (kL (kF a) i)) (ka0 (kL (kF a) i)), dl (qA (kF a) i) (k8 (kF a) i)])) zk ⟨rfl, rfl, rfl, rfl, rfl, rfl, rfl, rfl, rfl, rfl, rfl, rfl, rfl, rfl, rfl⟩ ?_
  rintro ⟨⟨j, p, x⟩, hinv1⟩
  obtain ⟨hj, hJ, hp, hpm⟩ : (j ≤ ka0 (kF b)) ∧ (prJ (kF a) (kF b) i j = x) ∧ (ka0 x = p) ∧ (p ≤ i * 64 + j) := hinv1
  refine qR (l := [(1, kG (kE b) m), (5, oV 3 0 p 1), (7, rV 2 0), (14, kG (kE (kF a)) (ka0 (kF a))), (15, uV (ka0 (kF a))), (16, uV i), (21, kG (kE (kF b)) (ka0 (kF b))), (22, uV (ka0 (kF b))), (23, uV j)]) (g := [(3, some (3, .ds (dI .i64 x))), (2, some (59, (e8 a i)))]) (nx := 4) rfl rfl rfl ?_
  by_cases hx10 : (((j : Nat) : Int) < (((ka0 (kF b)) : Nat) : Int))
  ·refine kK [.b true] (((j : Int) < (ka0 (kF b) : Int))) [(1, kG (kE b) m), (5, oV 3 0 p 1), (7, rV 2 0), (14, kG (kE (kF a)) (ka0 (kF a))), (15, uV (ka0 (kF a))), (16, uV i), (21, kG (kE (kF b)) (ka0 (kF b))), (22, uV (ka0 (kF b))), (23, uV j), (24, bV true)] [(2, some (59, (e8 a i))), (3, some (3, .ds (dI .i64 x)))] 4 zo ?_
   refine AW.seq ?_
   refine vB ?_
   refine AW.seq ?_
   refine AW.block ?_
   obtain ⟨hx11, hx12, hx13, hx14, hx15⟩ := BsW.at (bK (qD : BsW b)) (j)
   have hx16 : ((1 : Nat) ≤ (ka0 (kL (kF b) j))) := mU zo
   refine kK [.n j, .ds [iD (kQ (kF b) j), dl (kZ (kF b) j) (kX (kF b) j), D.sl (kI (kL (kF b) j)) (ka0 (kL (kF b) j)), dl (qA (kF b) j) (k8 (kF b) j)], .no, .no] ((kN (j : Int)) ∧ (j < (ka0 (kF b))) ∧ (List.take 4 (ka3 (j * 4) (kE (kF b))) = [iD (kQ (kF b) j), dl (kZ (kF b) j) (kX (kF b) j), D.sl (kI (kL (kF b) j)) (ka0 (kL (kF b) j)), dl (qA (kF b) j) (k8 (kF b) j)]) ∧ (([iD (kQ (kF b) j), dl (kZ (kF b) j) (kX (kF b) j), D.sl (kI (kL (kF b) j)) (ka0 (kL (kF b) j)), dl (qA (kF b) j) (k8 (kF b) j)] : List D).length = 4)) [(1, kG (kE b) m), (5, oV 3 0 p 1), (7, rV 2 0), (9, rV 4 0), (14, kG (kE (kF a)) (ka0 (kF a))), (15, uV (ka0 (kF a))), (16, uV i), (21, kG (kE (kF b)) (ka0 (kF b))), (22, uV (ka0 (kF b))), (23, uV j)] [(2, some (59, (e8 a i))), (3, some (3, .ds (dI .i64 x))), (4, some (59, .ds [iD (kQ (kF b) j), dl (kZ (kF b) j) (kX (kF b) j), D.sl (kI (kL (kF b) j)) (ka0 (kL (kF b) j)), dl (qA (kF b) j) (k8 (kF b) j)]))] 5 ⟨rfl, zo, (yV k1g), rfl⟩ ?_
   have hx17 : (((0 : Int) ≤ (x3 (kQ (kF a) i) (kZ (kF a) i) (kX (kF a) i) (kL (kF a) i) (ka0 (kL (kF a) i)) (qA (kF a) i) (k8 (kF a) i) (kQ (kF b) j) (kZ (kF b) j) (kX (kF b) j) (kL (kF b) j) (qA (kF b) j) (k8 (kF b) j))) ∧ ((x3 (kQ (kF a) i) (kZ (kF a) i) (kX (kF a) i) (kL (kF a) i) (ka0 (kL (kF a) i)) (qA (kF a) i) (k8 (kF a) i) (kQ (kF b) j) (kZ (kF b) j) (kX (kF b) j) (kL (kF b) j) (qA (kF b) j) (k8 (kF b) j)) ≤ 15)) := k34 ..
   refine aH [.no, .no, .no, .call [] (iV (x3 (kQ (kF a) i) (kZ (kF a) i) (kX (kF a) i) (kL (kF a) i) (ka0 (kL (kF a) i)) (qA (kF a) i) (k8 (kF a) i) (kQ (kF b) j) (kZ (kF b) j) (kX (kF b) j) (kL (kF b) j) (qA (kF b) j) (k8 (kF b) j))) [] 0 [] none, .no, .ap none (p + 1) (dI .i64 (x ++ ([(x3 (kQ (kF a) i) (kZ (kF a) i) (kX (kF a) i) (kL (kF a) i) (ka0 (kL (kF a) i)) (qA (kF a) i) (k8 (kF a) i) (kQ (kF b) j) (kZ (kF b) j) (kX (kF b) j) (kL (kF b) j) (qA (kF b) j) (k8 (kF b) j))] : List Int))), .no] ((_) ∧ ([iD (x3 (kQ (kF a) i) (kZ (kF a) i) (kX (kF a) i) (kL (kF a) i) (ka0 (kL (kF a) i)) (qA (kF a) i) (k8 (kF a) i) (kQ (kF b) j) (kZ (kF b) j) (kX (kF b) j) (kL (kF b) j) (qA (kF b) j) (k8 (kF b) j))].length = 1 * 1) ∧ (((dI .i64 x) : List D).length = p * 1) ∧ ((p + 1) * 8 ≤ 140737488355328) ∧ (p + 1 = (p + 1)) ∧ (((dI .i64 x) : List D) ++ [iD (x3 (kQ (kF a) i) (kZ (kF a) i) (kX (kF a) i) (kL (kF a) i) (ka0 (kL (kF a) i)) (qA (kF a) i) (k8 (kF a) i) (kQ (kF b) j) (kZ (kF b) j) (kX (kF b) j) (kL (kF b) j) (qA (kF b) j) (k8 (kF b) j))] = (dI .i64 (x ++ ([(x3 (kQ (kF a) i) (kZ (kF a) i) (kX (kF a) i) (kL (kF a) i) (ka0 (kL (kF a) i)) (qA (kF a) i) (k8 (kF a) i) (kQ (kF b) j) (kZ (kF b) j) (kX (kF b) j) (kL (kF b) j) (qA (kF b) j) (k8 (kF b) j))] : List Int))))) [(1, kG (kE b) m), (5, oV 6 0 (p + 1) 1), (7, rV 2 0), (14, kG (kE (kF a)) (ka0 (kF a))), (15, uV (ka0 (kF a))), (16, uV i), (21, kG (kE (kF b)) (ka0 (kF b))), (22, uV (ka0 (kF b))), (23, uV j)] [(2, some (59, (e8 a i))), (6, some (3, .ds (dI .i64 (x ++ ([(x3 (kQ (kF a) i) (kZ (kF a) i) (kX (kF a) i) (kL (kF a) i) (ka0 (kL (kF a) i)) (qA (kF a) i) (k8 (kF a) i) (kQ (kF b) j) (kZ (kF b) j) (kX (kF b) j) (kL (kF b) j) (qA (kF b) j) (k8 (kF b) j))] : List Int)))))] 7 ⟨(v30 (kQ (kF a) i) (kZ (kF a) i) (kX (kF a) i) (kL (kF a) i) (ka0 (kL (kF a) i)) (qA (kF a) i) (k8 (kF a) i) (kQ (kF b) j) (kZ (kF b) j) (kX (kF b) j) (kL (kF b) j) (ka0 (kL (kF b) j)) (qA (kF b) j) (k8 (kF b) j) bO bO rfl bO bO bO (BsW.ms (bK (qD : BsW a)) _) bO bO rfl bO bO bO (BsW.ms (bK (qD : BsW b)) _)), dO, dO, zo, zo, (yN .i64 x ([(x3 (kQ (kF a) i) (kZ (kF a) i) (kX (kF a) i) (kL (kF a) i) (ka0 (kL (kF a) i)) (qA (kF a) i) (k8 (kF a) i) (kQ (kF b) j) (kZ (kF b) j) (kX (kF b) j) (kL (kF b) j) (qA (kF b) j) (k8 (kF b) j))] : List Int))⟩ ?_
   refine uT [.w, .no] ((-9223372036854775808) ≤ ((j : Int) + 1) ∧ ((j : Int) + 1) ≤ 9223372036854775807) [(1, kG (kE b) m), (5, oV 6 0 (p + 1) 1), (7, rV 2 0), (14, kG (kE (kF a)) (ka0 (kF a))), (15, uV (ka0 (kF a))), (16, uV i), (21, kG (kE (kF b)) (ka0 (kF b))), (22, uV (ka0 (kF b))), (23, iV (↑j + 1))] ⟨by omega, by omega⟩ ?_
   exact kW ⟨(((j + 1) : Nat), ((p + 1) : Nat), ((x ++ ([(x3 (kQ (kF a) i) (kZ (kF a) i) (kX (kF a) i) (kL (kF a) i) (ka0 (kL (kF a) i)) (qA (kF a) i) (k8 (kF a) i) (kQ (kF b) j) (kZ (kF b) j) (kX (kF b) j) (kL (kF b) j) (qA (kF b) j) (k8 (kF b) j))] : List Int)) : List Int)), ⟨a5, (u9d hJ rfl), k1f, zo⟩⟩ [(3, 6)] (P := (kM (kE b)) ∧ (kJ m) ∧ (kJ 0) ∧ (kJ (p + 1)) ∧ (kJ 0) ∧ (kM (kE (kF a))) ∧ (kJ (ka0 (kF a))) ∧ (kN (ka0 (kF a) : Int)) ∧ (kN (i : Int)) ∧ (kM (kE (kF b))) ∧ (kJ (ka0 (kF b))) ∧ (kN (ka0 (kF b) : Int)) ∧ (((((j + 1) : Nat) : Int) : Int) = ((j : Int) + 1)) ∧ (kM (dI .i64 (x ++ ([(x3 (kQ (kF a) i) (kZ (kF a) i) (kX (kF a) i) (kL (kF a) i) (ka0 (kL (kF a) i)) (qA (kF a) i) (k8 (kF a) i) (kQ (kF b) j) (kZ (kF b) j) (kX (kF b) j) (kL (kF b) j) (qA (kF b) j) (k8 (kF b) j))] : List Int)))) ∧ (kM [iD (kQ (kF a) i), dl (kZ (kF a) i) (kX (kF a) i), D.sl (kI (kL (kF a) i)) (ka0 (kL (kF a) i)), dl (qA (kF a) i) (k8 (kF a) i)])) zk ⟨rfl, rfl, rfl, rfl, rfl, rfl, rfl, rfl, rfl, rfl, rfl, rfl, bN, rfl, rfl⟩ (show ka0 (kF b) - (j + 1) < ka0 (kF b) - j from eO)
  ·refine kK [.b false] (¬ ((j : Int) < (ka0 (kF b) : Int))) [(1, kG (kE b) m), (5, oV 3 0 p 1), (7, rV 2 0), (14, kG (kE (kF a)) (ka0 (kF a))), (15, uV (ka0 (kF a))), (16, uV i), (21, kG (kE (kF b)) (ka0 (kF b))), (22, uV (ka0 (kF b))), (23, uV j), (24, bV false)] [(2, some (59, (e8 a i))), (3, some (3, .ds (dI .i64 x)))] 4 zo ?_
   refine AW.seq ?_
   refine zf ?_
   refine AW.exit ?_
   refine aH [.w, .no] ((-9223372036854775808) ≤ ((i : Int) + 1) ∧ ((i : Int) + 1) ≤ 9223372036854775807) [(1, kG (kE b) m), (5, oV 3 0 p 1), (14, kG (kE (kF a)) (ka0 (kF a))), (15, uV (ka0 (kF a))), (16, iV (↑i + 1))] [(3, some (3, .ds (dI .i64 x)))] 4 ⟨by omega, by omega⟩ ?_
   exact kW ⟨(((i + 1) : Nat), (p : Nat), (x : List Int)), ⟨a5, (u9e hJ zo), (by first | assumption | omega), zo⟩⟩ [(1, 3)] (P := (kM (kE b)) ∧ (kJ m) ∧ (kJ 0) ∧ (kJ p) ∧ (kM (kE (kF a))) ∧ (kJ (ka0 (kF a))) ∧ (kN (ka0 (kF a) : Int)) ∧ (((((i + 1) : Nat) : Int) : Int) = ((i : Int) + 1)) ∧ (kM (dI .i64 x))) zk ⟨rfl, rfl, rfl, rfl, rfl, rfl, rfl, bN, rfl⟩ (show ka0 (kF a) - (i + 1) < ka0 (kF a) - i from eO)
 ·refine kK [.b false] (¬ ((i : Int) < (ka0 (kF a) : Int))) [(1, kG (kE b) m), (5, oV 1 0 q 1), (14, kG (kE (kF a)) (ka0 (kF a))), (15, uV (ka0 (kF a))), (16, uV i), (17, bV false)] [(1, some (3, .ds (dI .i64 o)))] 2 zo ?_
  refine AW.seq ?_
  refine zf ?_
  refine AW.exit ?_
  refine AW.seq ?_
  rcases ka9 (ctB o q 15) with hx18 | hx18
  ·refine AW.freeze 1 (l' := [(1, kG (kE b) m), (5, sV .i64 o q), (14, kG (kE (kF a)) (ka0 (kF a))), (15, uV (ka0 (kF a))), (16, uV i), (17, bV false)]) (g' := []) rfl (FzS.cons rfl (.same _) (FzS.cons rfl (.e (.c (@FzC.own 1 ((dI .i64 o) : List D) 0 q 1 true ((dI .i64 o) : List D) k1h dO))) (FzS.cons rfl (.same _) (FzS.cons rfl (.same _) (FzS.cons rfl (.same _) (FzS.cons rfl (.same _) FzS.nil)))))) FzG.nil ?_
   refine kK [.no, .call [] (bV true) [] 0 [] none] (Fun 74 [.c (.d (dl o q)), iE 15] (kH []) 0 (bV true) (kH []) 0) [(5, sV .i64 o q), (36, bV true)] [] 2 (by have h0 := (v1h o q 15 zo zo); rw [hx18] at h0; exact h0) ?_
   refine zt ?_
   refine kO [.no] True [(4, iV 0)] trivial ?_
   refine AW.ret ?_
   exact kA (.inr rfl) [] (P := (((qN a b) : Int) = 0)) zk (by first | exact v0x ho zo hq (by assumption) | exact v0w ho zo hq (by assumption) hy zo)
  ·refine AW.freeze 1 (l' := [(1, kG (kE b) m), (5, sV .i64 o q), (14, kG (kE (kF a)) (ka0 (kF a))), (15, uV (ka0 (kF a))), (16, uV i), (17, bV false)]) (g' := []) rfl (FzS.cons rfl (.same _) (FzS.cons rfl (.e (.c (@FzC.own 1 ((dI .i64 o) : List D) 0 q 1 true ((dI .i64 o) : List D) k1h dO))) (FzS.cons rfl (.same _) (FzS.cons rfl (.same _) (FzS.cons rfl (.same _) (FzS.cons rfl (.same _) FzS.nil)))))) FzG.nil ?_
   refine kK [.no, .call [] (bV false) [] 0 [] none] (Fun 74 [.c (.d (dl o q)), iE 15] (kH []) 0 (bV false) (kH []) 0) [(5, sV .i64 o q), (36, bV false)] [] 2 (by have h0 := (v1h o q 15 zo zo); rw [hx18] at h0; exact h0) ?_
   refine q8 ?_
   refine kO [.no] True [(5, sV .i64 o q), (10, iV 15)] trivial ?_
   refine AW.seq ?_
   refine kK [.no, .no] True [(5, sV .i64 o q), (10, iV 15), (11, rV 2 0)] [(2, some (3, .ds [iD 14]))] 3 trivial ?_
   refine AW.block ?_
   refine kY 0 hcx (fun (x : {x : Nat × Int // match x with | (z, y) => (z ≤ 14 ∧ 0 ≤ y ∧ y ≤ 15) ∧ (iM o q z = y)}) => match x with | ⟨(z, y), _⟩ => (⟨[(5, sV .i64 o q), (10, iV y), (11, rV 3 0)], [(3, some (3, .ds [iD (14 - (z : Int))]))], 4⟩ : ES)) (fun x => match x with | ⟨(z, y), _⟩ => 14 - z) ⟨((0 : Nat), (15 : Int)), ⟨a5, rfl⟩⟩ [(3, 2)] (P := (kM (dI .i64 o)) ∧ (kJ q) ∧ (kN 15) ∧ (kJ 0) ∧ (kM [iD 14])) zk ⟨rfl, rfl, rfl, rfl, rfl⟩ ?_
   rintro ⟨⟨z, y⟩, hinv2⟩
   obtain ⟨hz, hy⟩ : (z ≤ 14 ∧ 0 ≤ y ∧ y ≤ 15) ∧ (iM o q z = y) := hinv2
   refine qR (l := [(5, sV .i64 o q), (10, iV y), (11, rV 3 0)]) (g := [(3, some (3, .ds [iD (14 - (z : Int))]))]) (nx := 4) rfl rfl rfl ?_
   refine AW.seq ?_
   by_cases hx19 : ((0 : Int) < (14 - ((z : Nat) : Int)))
   ·refine kK [.no, .b true] (((0 : Int) < (14 - (z : Int)))) [(5, sV .i64 o q), (10, iV y), (11, rV 3 0), (38, bV true)] [(3, some (3, .ds [iD (14 - ↑z)]))] 4 zo ?_
    refine vB ?_
    refine AW.seq ?_
    refine AW.block ?_
    refine kO [.no, .no] True [(5, sV .i64 o q), (10, iV y), (11, rV 3 0), (12, .e (.c (.fn 75 [(3, 0)])))] trivial ?_
    by_cases hx20 : ((0 : Int) < ((q : Nat) : Int))
    ·rcases ka9 (x8 o q (14 - ((z : Nat) : Int))) with hx21 | hx21
     ·refine kO [.no, .no, .b true, .no, .no, .no, .call [3] (bV true) [(0, some (3, .ds [iD (14 - (z : Int))]))] 1 [] none, .no, .no, .no, .no] ((((0 : Int) < (q : Int))) ∧ (Fun 76 [.c (.d (dl o q)), .c (.fn 75 [(0, 0)])] (kH [(0, some (3, .ds [iD (14 - (z : Int))]))]) 1 (bV true) (kH [(0, some (3, .ds [iD (14 - (z : Int))]))]) 1)) [(5, sV .i64 o q), (10, iV y), (11, rV 3 0), (59, bV false)] ⟨zo, (by have h0 := (u8a o q (14 - (z : Int)) zo zo); rw [hx21] at h0; exact h0)⟩ ?_
      refine q8 ?_
      refine AW.seq ?_
      refine kK [.no] True [(5, sV .i64 o q), (10, iV y), (61, iV (14 - ↑z))] [] 4 trivial ?_
      refine aH [.no, .no] True [(5, sV .i64 o q), (10, iV y), (11, rV 4 0)] [(4, some (3, .ds [iD (14 - ↑z)]))] 5 trivial ?_
      refine aH [.no, .w, .no] ((-9223372036854775808) ≤ ((14 - (z : Int)) - 1) ∧ ((14 - (z : Int)) - 1) ≤ 9223372036854775807) [(5, sV .i64 o q), (10, iV y), (11, rV 4 0)] [(4, some (3, .ds [iD ((14 - ↑z) - 1)]))] 5 ⟨by omega, by omega⟩ ?_
      exact kW ⟨(((z + 1) : Nat), (y : Int)), ⟨a5, (by first | exact u3e hy zo (by assumption) zo rfl | exact u3h hy zo | exact u3g hy (by assumption) | exact u3f hy zo)⟩⟩ [(3, 4)] (P := (kM (dI .i64 o)) ∧ (kJ q) ∧ (kN y) ∧ (kJ 0) ∧ (([iD (14 - (((z + 1) : Nat) : Int))] : List D) = [iD ((14 - (z : Int)) - 1)])) zk ⟨rfl, rfl, rfl, rfl, (by first | rfl | with_reducible assumption | (rw [show (14 - ((z + 1 : Nat) : Int)) = 14 - (z : Int) - 1 by omega]))⟩ (show 14 - (z + 1) < 14 - z from eO)
     ·by_cases hx22 : ((uY (14 - ((z : Nat) : Int))) ≤ (uY y))
      ·refine kO [.no, .no, .b true, .no, .no, .no, .call [3] (bV false) [(0, some (3, .ds [iD (14 - (z : Int))]))] 1 [] none, .no, .no, .no, .no, .w, .call [] (iV (uY (14 - (z : Int)))) [] 0 [] none, .no, .w, .call [] (iV (uY y)) [] 0 [] none, .b true, .no] ((((0 : Int) < (q : Int))) ∧ (Fun 76 [.c (.d (dl o q)), .c (.fn 75 [(0, 0)])] (kH [(0, some (3, .ds [iD (14 - (z : Int))]))]) 1 (bV false) (kH [(0, some (3, .ds [iD (14 - (z : Int))]))]) 1) ∧ (0 ≤ (14 - (z : Int)) ∧ (14 - (z : Int)) ≤ 18446744073709551615) ∧ (_) ∧ (0 ≤ y ∧ y ≤ 18446744073709551615) ∧ (_) ∧ (((uY (14 - (z : Int))) ≤ (uY y)))) [(5, sV .i64 o q), (10, iV y), (11, rV 3 0), (59, bV true)] ⟨zo, (by have h0 := (u8a o q (14 - (z : Int)) zo zo); rw [hx21] at h0; exact h0), ⟨by omega, by omega⟩, (u3p (14 - (z : Int)) zo), ⟨by omega, by omega⟩, (u3p y zo), zo⟩ ?_
       refine zt ?_
       refine uT [.no, .no] True [(5, sV .i64 o q), (10, iV (14 - ↑z)), (11, rV 3 0)] trivial ?_
       refine AW.seq ?_
       refine kK [.no] True [(5, sV .i64 o q), (10, iV (14 - ↑z)), (61, iV (14 - ↑z))] [] 4 trivial ?_
       refine aH [.no, .no] True [(5, sV .i64 o q), (10, iV (14 - ↑z)), (11, rV 4 0)] [(4, some (3, .ds [iD (14 - ↑z)]))] 5 trivial ?_
       refine aH [.no, .w, .no] ((-9223372036854775808) ≤ ((14 - (z : Int)) - 1) ∧ ((14 - (z : Int)) - 1) ≤ 9223372036854775807) [(5, sV .i64 o q), (10, iV (14 - ↑z)), (11, rV 4 0)] [(4, some (3, .ds [iD ((14 - ↑z) - 1)]))] 5 ⟨by omega, by omega⟩ ?_
       exact kW ⟨(((z + 1) : Nat), ((14 - (z : Int)) : Int)), ⟨a5, (by first | exact u3e hy zo (by assumption) zo rfl | exact u3h hy zo | exact u3g hy (by assumption) | exact u3f hy zo)⟩⟩ [(3, 4)] (P := (kM (dI .i64 o)) ∧ (kJ q) ∧ (kN (14 - (z : Int))) ∧ (kJ 0) ∧ (([iD (14 - (((z + 1) : Nat) : Int))] : List D) = [iD ((14 - (z : Int)) - 1)])) zk ⟨rfl, rfl, rfl, rfl, (by first | rfl | with_reducible assumption | (rw [show (14 - ((z + 1 : Nat) : Int)) = 14 - (z : Int) - 1 by omega]))⟩ (show 14 - (z + 1) < 14 - z from eO)
      ·refine kO [.no, .no, .b true, .no, .no, .no, .call [3] (bV false) [(0, some (3, .ds [iD (14 - (z : Int))]))] 1 [] none, .no, .no, .no, .no, .w, .call [] (iV (uY (14 - (z : Int)))) [] 0 [] none, .no, .w, .call [] (iV (uY y)) [] 0 [] none, .b false, .no] ((((0 : Int) < (q : Int))) ∧ (Fun 76 [.c (.d (dl o q)), .c (.fn 75 [(0, 0)])] (kH [(0, some (3, .ds [iD (14 - (z : Int))]))]) 1 (bV false) (kH [(0, some (3, .ds [iD (14 - (z : Int))]))]) 1) ∧ (0 ≤ (14 - (z : Int)) ∧ (14 - (z : Int)) ≤ 18446744073709551615) ∧ (_) ∧ (0 ≤ y ∧ y ≤ 18446744073709551615) ∧ (_) ∧ (¬ ((uY (14 - (z : Int))) ≤ (uY y)))) [(5, sV .i64 o q), (10, iV y), (11, rV 3 0), (59, bV false)] ⟨zo, (by have h0 := (u8a o q (14 - (z : Int)) zo zo); rw [hx21] at h0; exact h0), ⟨by omega, by omega⟩, (u3p (14 - (z : Int)) zo), ⟨by omega, by omega⟩, (u3p y zo), zo⟩ ?_
       refine q8 ?_
       refine AW.seq ?_
       refine kK [.no] True [(5, sV .i64 o q), (10, iV y), (61, iV (14 - ↑z))] [] 4 trivial ?_
       refine aH [.no, .no] True [(5, sV .i64 o q), (10, iV y), (11, rV 4 0)] [(4, some (3, .ds [iD (14 - ↑z)]))] 5 trivial ?_
       refine aH [.no, .w, .no] ((-9223372036854775808) ≤ ((14 - (z : Int)) - 1) ∧ ((14 - (z : Int)) - 1) ≤ 9223372036854775807) [(5, sV .i64 o q), (10, iV y), (11, rV 4 0)] [(4, some (3, .ds [iD ((14 - ↑z) - 1)]))] 5 ⟨by omega, by omega⟩ ?_
       exact kW ⟨(((z + 1) : Nat), (y : Int)), ⟨a5, (by first | exact u3e hy zo (by assumption) zo rfl | exact u3h hy zo | exact u3g hy (by assumption) | exact u3f hy zo)⟩⟩ [(3, 4)] (P := (kM (dI .i64 o)) ∧ (kJ q) ∧ (kN y) ∧ (kJ 0) ∧ (([iD (14 - (((z + 1) : Nat) : Int))] : List D) = [iD ((14 - (z : Int)) - 1)])) zk ⟨rfl, rfl, rfl, rfl, (by first | rfl | with_reducible assumption | (rw [show (14 - ((z + 1 : Nat) : Int)) = 14 - (z : Int) - 1 by omega]))⟩ (show 14 - (z + 1) < 14 - z from eO)
    ·refine kO (.no :: .no :: .b false :: qE 4 []) (¬ ((0 : Int) < (q : Int))) [(5, sV .i64 o q), (10, iV y), (11, rV 3 0), (59, bV false)] zo ?_
     refine q8 ?_
     refine AW.seq ?_
     refine kK [.no] True [(5, sV .i64 o q), (10, iV y), (61, iV (14 - ↑z))] [] 4 trivial ?_
     refine aH [.no, .no] True [(5, sV .i64 o q), (10, iV y), (11, rV 4 0)] [(4, some (3, .ds [iD (14 - ↑z)]))] 5 trivial ?_
     refine aH [.no, .w, .no] ((-9223372036854775808) ≤ ((14 - (z : Int)) - 1) ∧ ((14 - (z : Int)) - 1) ≤ 9223372036854775807) [(5, sV .i64 o q), (10, iV y), (11, rV 4 0)] [(4, some (3, .ds [iD ((14 - ↑z) - 1)]))] 5 ⟨by omega, by omega⟩ ?_
     exact kW ⟨(((z + 1) : Nat), (y : Int)), ⟨a5, (by first | exact u3e hy zo (by assumption) zo rfl | exact u3h hy zo | exact u3g hy (by assumption) | exact u3f hy zo)⟩⟩ [(3, 4)] (P := (kM (dI .i64 o)) ∧ (kJ q) ∧ (kN y) ∧ (kJ 0) ∧ (([iD (14 - (((z + 1) : Nat) : Int))] : List D) = [iD ((14 - (z : Int)) - 1)])) zk ⟨rfl, rfl, rfl, rfl, (by first | rfl | with_reducible assumption | (rw [show (14 - ((z + 1 : Nat) : Int)) = 14 - (z : Int) - 1 by omega]))⟩ (show 14 - (z + 1) < 14 - z from eO)
   ·refine kK [.no, .b false] (¬ ((0 : Int) < (14 - (z : Int)))) [(5, sV .i64 o q), (10, iV y), (11, rV 3 0), (38, bV false)] [(3, some (3, .ds [iD (14 - ↑z)]))] 4 zo ?_
    refine zf ?_
    refine AW.exit ?_
    refine kK [.no, .no] True [(4, iV y)] [] 4 trivial ?_
    refine AW.ret ?_
    exact kA (.inr rfl) [] (P := (((qN a b) : Int) = y)) zk (by first | exact v0x ho zo hq (by assumption) | exact v0w ho zo hq (by assumption) hy zo)
end Go.Proofs.YtcfmjpnffembpaaGreat
