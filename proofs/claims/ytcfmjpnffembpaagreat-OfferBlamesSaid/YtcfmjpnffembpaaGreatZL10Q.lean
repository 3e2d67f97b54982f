/- What is to blame, of the code. No statement is proved here. -/
import Derived.Test.YtcfmjpnffembpaaGreatZL10N
namespace Go.Proofs.YtcfmjpnffembpaaGreat
open Go.ChangeShapes Go.WideShapes Go.ChangeAt Go.RowKit
open Bool renaming eq_false_or_eq_true → ka9
open List renaming drop → ka3, getD → ka1, length → ka0, length_append → ka6, length_cons → kb0, length_drop → kb3, length_map → kc6, length_nil → kb1, length_replicate → kb4, length_reverse → kc0, length_set → kb8, length_take → kb2
open Nat renaming le_of_ble_eq_true → ka4, mul_one → kc7
open True renaming intro → kd4
set_option linter.unusedVariables false
set_option linter.unusedSimpArgs false
/-! chapter 10: what is to blame -/
set_option maxHeartbeats 4000000
set_option maxRecDepth 100000
def qK (a b : Int) : Int := qG .and .i64 a b
def x7 (k : Int) (r : List Int) (rn : Nat) (m : List (List Int)) (c : Nat) (s : List Int) (sn : Nat) (k2 : Int) (r2 : List Int) (rn2 : Nat) (m2 : List (List Int)) (s2 : List Int) (sn2 : Nat) : Int :=
 (if qK k k2 = 0 then 0 else 1) + (if qM (kC r rn) (kC r2 rn2) = 0 then 0 else 2) + (if ka0 (uK m m2 c) = 0 then 0 else 4) + (if qM (kC s sn) (kC s2 sn2) = 0 then 0 else 8)
def yT (k k2 : Int) : Int := if qK k k2 = 0 then 0 else 1
def oS (a : Int) (n : Nat) (b : Int) : Int := a + (if n = 0 then 0 else b)
theorem m9 (k k2 : Int) : (qK k k2 = 0 ∧ yT k k2 = 0) ∨ (¬ qK k k2 = 0 ∧ yT k k2 = 1) := by
 unfold yT; split
 ·exact .inl ⟨by assumption, rfl⟩
 ·exact .inr ⟨by assumption, rfl⟩
theorem nM (a : Int) (n : Nat) (b : Int) : (n = 0 ∧ oS a n b = a) ∨ (1 ≤ n ∧ oS a n b = a + b) := by
 unfold oS; split
 ·exact .inl ⟨by assumption, by omega⟩
 ·exact .inr ⟨by omega, rfl⟩
theorem v2b {a : Int} (h : 0 ≤ a ∧ a ≤ 1) : qG .or .i64 a 2 = a + 2 := by
 rcases (by omega : a = 0 ∨ a = 1) with rfl | rfl <;> decide
theorem v2a {a : Int} (h : 0 ≤ a ∧ a ≤ 3) : qG .or .i64 a 4 = a + 4 := by
 rcases (by omega : a = 0 ∨ a = 1 ∨ a = 2 ∨ a = 3) with rfl | rfl | rfl | rfl <;> decide
theorem v29 {a : Int} (h : 0 ≤ a ∧ a ≤ 7) : qG .or .i64 a 8 = a + 8 := by
 rcases (by omega : a = 0 ∨ a = 1 ∨ a = 2 ∨ a = 3 ∨ a = 4 ∨ a = 5 ∨ a = 6 ∨ a = 7) with rfl | rfl | rfl | rfl | rfl | rfl | rfl | rfl <;> decide
theorem k39 (k : Int) (r : List Int) (rn : Nat) (m : List (List Int)) (c : Nat) (s : List Int) (sn : Nat) (k2 : Int) (r2 : List Int) (rn2 : Nat) (m2 : List (List Int)) (s2 : List Int) (sn2 : Nat) : 0 ≤ x7 k r rn m c s sn k2 r2 rn2 m2 s2 sn2 ∧ x7 k r rn m c s sn k2 r2 rn2 m2 s2 sn2 ≤ 15 := by
 unfold x7; (repeat' split) <;> omega
def shE (xs ys : List Bx) (i j : Nat) : Int := x7 (kQ xs i) (kZ xs i) (kX xs i) (kL xs i) (ka0 (kL xs i)) (qA xs i) (k8 xs i) (kQ ys j) (kZ ys j) (kX ys j) (kL ys j) (qA ys j) (k8 ys j)
def dA (xs ys : List Bx) : Nat → List Int
 | 0 => []
 | i + 1 => dA xs ys i ++ (List.range (ka0 ys)).map (shE xs ys i)
def prJ (xs ys : List Bx) (i j : Nat) : List Int := dA xs ys i ++ (List.range j).map (shE xs ys i)
theorem u9k {xs ys : List Bx} {i : Nat} {o : List Int} (h : dA xs ys i = o) : prJ xs ys i 0 = o := by
 unfold prJ; rw [h]; exact List.append_nil _
theorem u9i {xs ys : List Bx} {i j : Nat} {o : List Int} {x : Int} (h : prJ xs ys i j = o) (hx : x = shE xs ys i j) : prJ xs ys i (j + 1) = o ++ [x] := by
 subst h; subst hx
 unfold prJ; rw [List.range_succ, List.map_append, List.append_assoc]; rfl
theorem u9j {xs ys : List Bx} {i j : Nat} {o : List Int} (h : prJ xs ys i j = o) (hj : j = ka0 ys) : dA xs ys (i + 1) = o := by
 subst hj; exact h
theorem k3g (xs ys : List Bx) : ∀ i, ka0 (dA xs ys i) = i * ka0 ys
 | 0 => (Nat.zero_mul _).symm
 | i + 1 => by rw [dA, ka6, k3g xs ys i, kc6, List.length_range, Nat.succ_mul]
theorem t8 (xs ys : List Bx) : ∀ i, ∀ x ∈ dA xs ys i, 0 ≤ x ∧ x ≤ 15
 | 0 => fun x h => by cases h
 | i + 1 => fun x h => by
  rcases List.mem_append.1 h with h | h
  ·exact t8 xs ys i x h
  ·obtain ⟨j, _, rfl⟩ := List.mem_map.1 h
   exact k39 ..
def ctB (l : List Int) (n : Nat) (v : Int) : Bool := decide (0 ≤ qV l v n)
def stB (d s : Int) : Bool := decide (qK d s = s)
def mtK (l : List Int) (s : Int) : Nat → Int := zF fun j => stB (ka1 l j 0) s
theorem v00 {l : List Int} {s : Int} {k : Nat} (h : mtK l s k = -1) (h2 : stB (ka1 l k 0) s = false) : mtK l s (k + 1) = -1 := g6 h h2
theorem u4d {l : List Int} {s : Int} {k : Nat} (h : mtK l s k = -1) (h2 : stB (ka1 l k 0) s = true) {n : Nat} (hn : k < n) : mtK l s n = (k : Int) := jL h h2 n hn
def zC (l : List Int) (n : Nat) (s : Int) : Bool := decide (0 ≤ mtK l s n)
def uY (x : Int) : Int := x % 2 + x / 2 % 2 + x / 4 % 2 + x / 8 % 2
def iN (l : List Int) (n : Nat) : Nat → Int
 | 0 => 15
 | i + 1 => if 1 ≤ n ∧ zC l n (14 - (i : Int)) = false ∧ uY (14 - (i : Int)) ≤ uY (iN l n i) then 14 - (i : Int) else iN l n i
theorem k4i (l : List Int) (n : Nat) : ∀ i, i ≤ 14 → 0 ≤ iN l n i ∧ iN l n i ≤ 15
 | 0, _ => ⟨(by decide : (0 : Int) ≤ 15), Int.le_refl 15⟩
 | i + 1, h => by
  have := k4i l n i (by omega)
  rw [iN]; split <;> omega
theorem u3j {l : List Int} {n i : Nat} {y x : Int} (h : iN l n i = y) (h1 : 1 ≤ n) (h2 : zC l n (14 - (i : Int)) = false) (h3 : uY (14 - (i : Int)) ≤ uY y) (hx : x = 14 - (i : Int)) : iN l n (i + 1) = x := by
 subst h; rw [hx]; exact if_pos ⟨h1, h2, h3⟩
theorem u3m {l : List Int} {n i : Nat} {y : Int} (h : iN l n i = y) (h1 : ¬ 1 ≤ n) : iN l n (i + 1) = y := by
 subst h; exact if_neg fun e => h1 e.1
theorem u3l {l : List Int} {n i : Nat} {y : Int} (h : iN l n i = y) (h2 : zC l n (14 - (i : Int)) = true) : iN l n (i + 1) = y := by
 subst h; exact if_neg fun e => by rw [h2] at e; cases e.2.1
theorem u3k {l : List Int} {n i : Nat} {y : Int} (h : iN l n i = y) (h3 : ¬ uY (14 - (i : Int)) ≤ uY y) : iN l n (i + 1) = y := by
 subst h; exact if_neg fun e => h3 e.2.2
def blP (l : List Int) : Int := if ctB l (ka0 l) 15 = true then 0 else iN l (ka0 l) 14
def qN (a b : List Bx) : Int := blP (dA (kF a) (kF b) (ka0 (kF a)))
theorem v12 {a b : List Bx} {o : List Int} {i n : Nat} (h : dA (kF a) (kF b) i = o) (hi : i = ka0 (kF a)) (hn : ka0 o = n) (hc : ctB o n 15 = true) : qN a b = 0 := by
 subst hi; subst hn
 unfold qN; rw [h]; exact if_pos hc
theorem v11 {a b : List Bx} {o : List Int} {i n : Nat} {y : Int} {z : Nat} (h : dA (kF a) (kF b) i = o) (hi : i = ka0 (kF a)) (hn : ka0 o = n) (hc : ctB o n 15 = false) (hy : iN o n z = y) (hz : z = 14) : qN a b = y := by
 subst hi; subst hn; subst hz
 unfold qN; rw [h, ← hy]; exact if_neg (by rw [hc]; decide)
theorem iA (a b : List Bx) : 0 ≤ qN a b ∧ qN a b ≤ 15 := by
 unfold qN blP; split
 ·decide
 ·exact k4i _ _ 14 (Nat.le_refl _)
theorem u0h (a : List Bx) : ka0 (kF a) ≤ 64 := by
 unfold kF; split
 ·rename_i h; exact (of_decide_eq_true h).1
 ·exact Nat.zero_le _
theorem c16 {x : Int} (h : 0 ≤ x ∧ x ≤ 15) {p : Int → Prop} (h0 : ∀ n : Nat, n < 16 → p (n : Int)) : p x := by
 have := h0 x.toNat (by omega)
 rw [show ((x.toNat : Nat) : Int) = x by omega] at this; exact this
def zB (x : Int) : Int := x / 2 % 2 + 4 * (x / 8 % 2)
def zA (x : Int) : Int := x % 2 + 4 * (x / 4 % 2)
def sJ (x : Int) : Int := x / 4 % 2 + x / 8 % 2
def sI (x : Int) : Int := x % 2 + x / 2 % 2
theorem v2i {x : Int} (h : 0 ≤ x ∧ x ≤ 15) : qG .and .u64 (x / 2) 6148914691236517205 = zB x := c16 (p := fun x => qG .and .u64 (x / 2) 6148914691236517205 = zB x) h (by decide)
theorem v2h {x : Int} (h : 0 ≤ x ∧ x ≤ 15) : qG .and .u64 x 6148914691236517205 = zA x := c16 (p := fun x => qG .and .u64 x 6148914691236517205 = zA x) h (by decide)
theorem v2g {x : Int} (h : 0 ≤ x ∧ x ≤ 15) : qG .and .u64 ((zB x + zA x) / 4) 3689348814741910323 = sJ x := c16 (p := fun x => qG .and .u64 ((zB x + zA x) / 4) 3689348814741910323 = sJ x) h (by decide)
theorem v2f {x : Int} (h : 0 ≤ x ∧ x ≤ 15) : qG .and .u64 (zB x + zA x) 3689348814741910323 = sI x := c16 (p := fun x => qG .and .u64 (zB x + zA x) 3689348814741910323 = sI x) h (by decide)
theorem v2e {x y : Int} (h : 0 ≤ x ∧ x ≤ 15) (hy : y = sJ x + sI x) : qG .and .u64 y 1085102592571150095 = uY x := by
 rw [hy]; exact c16 (p := fun x => qG .and .u64 (sJ x + sI x) 1085102592571150095 = uY x) h (by decide)
theorem v2d {x y : Int} (h : 0 ≤ x ∧ x ≤ 15) (hy : y = uY x) : qG .and .i64 y 127 = uY x := by
 rw [hy]; exact c16 (p := fun x => qG .and .i64 (uY x) 127 = uY x) h (by decide)
theorem v2c {x : Int} (h : 0 ≤ x ∧ x ≤ 15) : (0 ≤ zB x ∧ zB x ≤ 5) ∧ (0 ≤ zA x ∧ zA x ≤ 5) ∧ (0 ≤ sJ x ∧ sJ x ≤ 2) ∧ (0 ≤ sI x ∧ sI x ≤ 2) ∧ 0 ≤ uY x ∧ uY x ≤ 4 := by
 unfold zB zA sJ sI uY; omega
theorem a5 {p : Prop} (h : p := by first | omega | assumption | simp) : p := h
theorem k1l {p : Prop} (h : p := by first | omega | (simp only [qC, qB, ka6, kb0, kb1, kb2, kb3] <;> omega)) : p := h
theorem bO {p : Prop} (h : p := by first | omega | with_reducible assumption | (simp only [qC, qB, ka6, kb0, kb1, kb2, kb3, kb4, kb8] <;> omega) | rfl | assumption) : p := h
theorem dO {p : Prop} (h : p := by first | omega | (simp only [qC, qB, qR, ka6, kb0, kb1, kb2, kb3, kb4, kb8, kc6, kc0, kc7] <;> omega) | rfl) : p := h
theorem k1k {p : Prop} (h : p := by first | omega | (simp only [qC, qB, ka6, kb0, kb1] <;> omega)) : p := h
theorem bN {p : Prop} (h : p := by first | rfl | omega | assumption | (simp; done) | (simp; omega)) : p := h
theorem eP {p : Prop} (h : p := by first | omega | (show _ < _; simp; omega)) : p := h
theorem k1m {p : Prop} (h : p := by rw [List.drop_zero, kc7, List.take_of_length_le (by first | omega | (simp only [qC, qB, qR, ka6, kb0, kb1, kb2, kb3, kb4, kb8, kc6, kc0, kc7] <;> omega))]) : p := h
theorem k63 (a b : List (List Int)) (n m : Nat) (hn : ka0 a = n) (hm : ka0 b = m) (h1 : n ≤ 1000000) (h2 : m ≤ 1000000) (hW : MsW a) (hV : MsW b) : Fun 86 [.c (.d (D.sl (kI a) n)), .c (.d (D.sl (kI b) m))] (kH []) 0 (.e (.c (.d (D.sl (kI (uK a b n)) (ka0 (uK a b n)))))) (kH []) 0 := by
 refine Fun.mk (n := 24) Tryz.func86 rfl rfl (ka4 rfl) ?_
 intro cx hcx
 refine kK [.no] True [(0, .e (.c (.d (D.sl (kI a) n)))), (1, .e (.c (.d (D.sl (kI b) m))))] [] 0 trivial ?_
 refine kO [.no] True [(0, .e (.c (.d (D.sl (kI a) n)))), (1, .e (.c (.d (D.sl (kI b) m)))), (5, nV)] trivial ?_
 refine AW.seq ?_
 refine kO [.no, .no, .no] True [(1, .e (.c (.d (D.sl (kI b) m)))), (5, nV), (8, .e (.c (.d (D.sl (kI a) n)))), (9, uV n), (10, iV 0)] trivial ?_
 refine AW.block ?_
 refine AW.adoptS 5 1 23 rfl ?_
 refine kY 0 hcx (fun (x : {x : Nat × Nat × List (List Int) // match x with | (i, q, o) => (i ≤ n ∧ q ≤ i) ∧ (uK a b i = o) ∧ (ka0 o = q) ∧ (MsW o)}) => match x with | ⟨(i, q, o), _⟩ => (⟨[(1, .e (.c (.d (D.sl (kI b) m)))), (5, oV 1 0 q 1), (8, .e (.c (.d (D.sl (kI a) n)))), (9, uV n), (10, uV i)], [(1, some (23, .ds (kI o)))], 2⟩ : ES)) (fun x => match x with | ⟨(i, q, o), _⟩ => n - i) ⟨((0 : Nat), (0 : Nat), (([] : List (List Int)) : List (List Int))), ⟨a5, rfl, rfl, MsW.nil⟩⟩ [(1, 0)] (P := (kM (kI b)) ∧ (kJ m) ∧ (kJ 0) ∧ (kJ 0) ∧ (kM (kI a)) ∧ (kJ n) ∧ (kN (n : Int)) ∧ (kN 0) ∧ (((kI ([] : List (List Int))) : List D) = ([] : List D))) zk ⟨rfl, rfl, rfl, rfl, rfl, rfl, rfl, rfl, (by first | rfl | with_reducible assumption)⟩ ?_
 rintro ⟨⟨i, q, o⟩, hinv0⟩
 obtain ⟨hi, ho, hq, hO⟩ : (i ≤ n ∧ q ≤ i) ∧ (uK a b i = o) ∧ (ka0 o = q) ∧ (MsW o) := hinv0
 refine qS (l := [(1, .e (.c (.d (D.sl (kI b) m)))), (5, oV 1 0 q 1), (8, .e (.c (.d (D.sl (kI a) n)))), (9, uV n), (10, uV i)]) (g := [(1, some (23, .ds (kI o)))]) (nx := 2) rfl rfl rfl ?_
 by_cases hx1 : (((i : Nat) : Int) < ((n : Nat) : Int))
 ·refine kK [.b true] (((i : Int) < (n : Int))) [(1, .e (.c (.d (D.sl (kI b) m)))), (5, oV 1 0 q 1), (8, .e (.c (.d (D.sl (kI a) n)))), (9, uV n), (10, uV i), (11, bV true)] [(1, some (23, .ds (kI o)))] 2 zo ?_
  refine AW.seq ?_
  refine vB ?_
  refine AW.seq ?_
  refine AW.block ?_
  have hx2 : ((ka0 (ka1 a i ([] : List Int))) ≤ 1000000) := MsW.at (qD : MsW a) _
  refine kO [.n i, .d (dl (ka1 a i ([] : List Int)) (ka0 (ka1 a i ([] : List Int)))), .no] ((kN (i : Int)) ∧ (i < n) ∧ ((ka3 i (kI a))[0]? = some (dl (ka1 a i ([] : List Int)) (ka0 (ka1 a i ([] : List Int)))))) [(1, .e (.c (.d (D.sl (kI b) m)))), (5, oV 1 0 q 1), (7, sV .i64 (ka1 a i ([] : List Int)) (ka0 (ka1 a i ([] : List Int)))), (8, .e (.c (.d (D.sl (kI a) n)))), (9, uV n), (10, uV i)] ⟨rfl, zo, (vQ _ _ k1l)⟩ ?_
  rcases ka9 (gJ b (ka1 a i ([] : List Int))) with hx3 | hx3
  ·refine kO [.no, .no, .call [] (bV true) [] 0 [] none] (Fun 96 [.c (.d (D.sl (kI b) m)), .c (.d (dl (ka1 a i ([] : List Int)) (ka0 (ka1 a i ([] : List Int)))))] (kH []) 0 (bV true) (kH []) 0) [(1, .e (.c (.d (D.sl (kI b) m)))), (5, oV 1 0 q 1), (7, sV .i64 (ka1 a i ([] : List Int)) (ka0 (ka1 a i ([] : List Int)))), (8, .e (.c (.d (D.sl (kI a) n)))), (9, uV n), (10, uV i), (16, bV true)] (by have h0 := (lR b m (ka1 a i ([] : List Int)) (ka0 (ka1 a i ([] : List Int))) zo rfl zo bO (qD : MsW b)); rw [hx3] at h0; exact h0) ?_
   refine zt ?_
   refine aH [.no, .no, (.fz (.call [] (oV 0 0 (ka0 (ka1 a i ([] : List Int))) 1) [(0, some (3, .ds (dI .i64 (ka1 a i ([] : List Int)))))] 1 [] none)), .no, .ap none (q + 1) (kI (o ++ ([(ka1 a i ([] : List Int))] : List (List Int)))), .no] ((_) ∧ (((dI .i64 (ka1 a i ([] : List Int))) : List D).length = (ka0 (ka1 a i ([] : List Int))) * 1) ∧ ([dl (ka1 a i ([] : List Int)) (ka0 (ka1 a i ([] : List Int)))].length = 1 * 1) ∧ (((kI o) : List D).length = q * 1) ∧ ((q + 1) * 24 ≤ 140737488355328) ∧ (q + 1 = (q + 1)) ∧ (((kI o) : List D) ++ [dl (ka1 a i ([] : List Int)) (ka0 (ka1 a i ([] : List Int)))] = (kI (o ++ ([(ka1 a i ([] : List Int))] : List (List Int)))))) [(1, .e (.c (.d (D.sl (kI b) m)))), (5, oV 4 0 (q + 1) 1), (8, .e (.c (.d (D.sl (kI a) n)))), (9, uV n), (10, uV i)] [(4, some (23, .ds (kI (o ++ ([(ka1 a i ([] : List Int))] : List (List Int))))))] 5 ⟨(gS (ka1 a i ([] : List Int)) (ka0 (ka1 a i ([] : List Int))) rfl bO), dO, dO, dO, zo, zo, (bU o (ka1 a i ([] : List Int)) (ka0 (ka1 a i ([] : List Int))) (by first | rfl | omega))⟩ ?_
   refine uT [.w, .no] ((-9223372036854775808) ≤ ((i : Int) + 1) ∧ ((i : Int) + 1) ≤ 9223372036854775807) [(1, .e (.c (.d (D.sl (kI b) m)))), (5, oV 4 0 (q + 1) 1), (8, .e (.c (.d (D.sl (kI a) n)))), (9, uV n), (10, iV (↑i + 1))] ⟨by omega, by omega⟩ ?_
   exact kW ⟨(((i + 1) : Nat), ((q + 1) : Nat), ((o ++ ([(ka1 a i ([] : List Int))] : List (List Int))) : List (List Int))), ⟨a5, (by first | exact k4d ho (by assumption) | exact k4e ho (by assumption)), k1k, (by first | assumption | exact MsW.snoc (by assumption) zo)⟩⟩ [(1, 4)] (P := (kM (kI b)) ∧ (kJ m) ∧ (kJ 0) ∧ (kJ (q + 1)) ∧ (kM (kI a)) ∧ (kJ n) ∧ (kN (n : Int)) ∧ (((((i + 1) : Nat) : Int) : Int) = ((i : Int) + 1)) ∧ (kM (kI (o ++ ([(ka1 a i ([] : List Int))] : List (List Int)))))) zk ⟨rfl, rfl, rfl, rfl, rfl, rfl, rfl, bN, rfl⟩ (show n - (i + 1) < n - i from eP)
  ·refine kO [.no, .no, .call [] (bV false) [] 0 [] none] (Fun 96 [.c (.d (D.sl (kI b) m)), .c (.d (dl (ka1 a i ([] : List Int)) (ka0 (ka1 a i ([] : List Int)))))] (kH []) 0 (bV false) (kH []) 0) [(1, .e (.c (.d (D.sl (kI b) m)))), (5, oV 1 0 q 1), (7, sV .i64 (ka1 a i ([] : List Int)) (ka0 (ka1 a i ([] : List Int)))), (8, .e (.c (.d (D.sl (kI a) n)))), (9, uV n), (10, uV i), (16, bV false)] (by have h0 := (lR b m (ka1 a i ([] : List Int)) (ka0 (ka1 a i ([] : List Int))) zo rfl zo bO (qD : MsW b)); rw [hx3] at h0; exact h0) ?_
   refine q9 ?_
   refine uT [.w, .no] ((-9223372036854775808) ≤ ((i : Int) + 1) ∧ ((i : Int) + 1) ≤ 9223372036854775807) [(1, .e (.c (.d (D.sl (kI b) m)))), (5, oV 1 0 q 1), (8, .e (.c (.d (D.sl (kI a) n)))), (9, uV n), (10, iV (↑i + 1))] ⟨by omega, by omega⟩ ?_
   exact kW ⟨(((i + 1) : Nat), (q : Nat), (o : List (List Int))), ⟨a5, (by first | exact k4d ho (by assumption) | exact k4e ho (by assumption)), k1k, (by first | assumption | exact MsW.snoc (by assumption) zo)⟩⟩ [] (P := (kM (kI b)) ∧ (kJ m) ∧ (kJ 0) ∧ (kJ q) ∧ (kM (kI a)) ∧ (kJ n) ∧ (kN (n : Int)) ∧ (((((i + 1) : Nat) : Int) : Int) = ((i : Int) + 1)) ∧ (kM (kI o))) zk ⟨rfl, rfl, rfl, rfl, rfl, rfl, rfl, bN, rfl⟩ (show n - (i + 1) < n - i from eP)
 ·refine kK [.b false] (¬ ((i : Int) < (n : Int))) [(1, .e (.c (.d (D.sl (kI b) m)))), (5, oV 1 0 q 1), (8, .e (.c (.d (D.sl (kI a) n)))), (9, uV n), (10, uV i), (11, bV false)] [(1, some (23, .ds (kI o)))] 2 zo ?_
  refine AW.seq ?_
  refine zf ?_
  refine AW.exit ?_
  refine kK [.no, .no] True [(4, oV 1 0 q 1)] [(1, some (23, .ds (kI o)))] 2 trivial ?_
  refine AW.freeze 1 (l' := [(4, .e (.c (.d (D.sl (kI o) q))))]) (g' := []) rfl (FzS.cons rfl (.e (.c (@FzC.own 1 ((kI o) : List D) 0 q 1 true ((kI o) : List D) k1m dO))) FzS.nil) FzG.nil ?_
  have hz1 : uK a b n = o := by have h9 := ho; rw [show i = n by omega] at h9; exact h9
  refine AW.ret ?_
  exact kA (.inr rfl) [] (P := (((kI (uK a b n)) : List D) = (kI o)) ∧ (((ka0 (uK a b n)) : Nat) = q)) zk ⟨(by first | rfl | (rw [hz1]; done) | (rw [hz1]; rfl)), (by first | rfl | (rw [hz1]; omega) | omega)⟩
abbrev dW (k : Int) (r : List Int) (rn : Nat) (m : List (List Int)) (c : Nat) (s : List Int) (sn : Nat) : BC := .ds [iD k, D.sl (dI .i64 r) rn, D.sl (kI m) c, D.sl (dI .i64 s) sn]
abbrev dV (k2 : Int) (r2 : List Int) (rn2 : Nat) (m2 : List (List Int)) (c2 : Nat) (s2 : List Int) (sn2 : Nat) : BC := .ds [iD k2, D.sl (dI .i64 r2) rn2, D.sl (kI m2) c2, D.sl (dI .i64 s2) sn2]
theorem v37 (k : Int) (r : List Int) (rn : Nat) (m : List (List Int)) (c : Nat) (s : List Int) (sn : Nat) (k2 : Int) (r2 : List Int) (rn2 : Nat) (m2 : List (List Int)) (c2 : Nat) (s2 : List Int) (sn2 : Nat) (hr : ka0 r = rn * 2) (hs : ka0 s = sn * 2) (hc : ka0 m = c) (h1 : rn ≤ 1000000) (h2 : sn ≤ 1000000) (h3 : c ≤ 1000000) (hW : MsW m) (hr2 : ka0 r2 = rn2 * 2) (hs2 : ka0 s2 = sn2 * 2) (hc2 : ka0 m2 = c2) (h12 : rn2 ≤ 1000000) (h22 : sn2 ≤ 1000000) (h32 : c2 ≤ 1000000) (hW2 : MsW m2) : Fun 73 [.agg [iC k, .d (D.sl (dI .i64 r) rn), .d (D.sl (kI m) c), .d (D.sl (dI .i64 s) sn)], .agg [iC k2, .d (D.sl (dI .i64 r2) rn2), .d (D.sl (kI m2) c2), .d (D.sl (dI .i64 s2) sn2)]] (kH []) 0 (iV (x7 k r rn m c s sn k2 r2 rn2 m2 s2 sn2)) (kH []) 0 := by
 refine Fun.mk (n := 44) Tryz.func73 rfl rfl (ka4 rfl) ?_
 intro cx hcx
 refine kK [.no, .no, .no] True [(2, rV 0 0), (3, rV 1 0)] [(0, some (59, (dW k r rn m c s sn))), (1, some (59, (dV k2 r2 rn2 m2 c2 s2 sn2)))] 2 trivial ?_
 refine kO [.no] True [(2, rV 0 0), (3, rV 1 0), (5, iV 0)] trivial ?_
 refine dN hcx [(2, rV 0 0), (3, rV 1 0), (5, iV (yT k k2))] [(0, some (59, (dW k r rn m c s sn))), (1, some (59, (dV k2 r2 rn2 m2 c2 s2 sn2)))] 2 ?_ ?_
 ·by_cases hx2 : ((qK k k2) ≠ 0)
  ·have hx3 : (qK k k2 = 0 ∧ yT k k2 = 0) ∨ (¬ qK k k2 = 0 ∧ yT k k2 = 1) := m9 _ _
   refine kK (qE 4 [.i (qK k k2), .b true]) ((qG .and .i64 k k2 = (qK k k2)) ∧ (((qK k k2) ≠ 0))) [(2, rV 0 0), (3, rV 1 0), (5, iV 0), (11, bV true)] [(0, some (59, (dW k r rn m c s sn))), (1, some (59, (dV k2 r2 rn2 m2 c2 s2 sn2)))] 2 ⟨rfl, zo⟩ ?_
   refine zt ?_
   refine uT [.no, .i 1, .no] (qG .or .i64 0 1 = 1) [(2, rV 0 0), (3, rV 1 0), (5, iV 1)] (by decide) ?_
   exact kW () [] (P := (kJ 0) ∧ (kJ 0) ∧ (((yT k k2) : Int) = 1) ∧ (kM [iD k, dl r rn, D.sl (kI m) c, dl s sn]) ∧ (kM [iD k2, dl r2 rn2, D.sl (kI m2) c2, dl s2 sn2])) zk ⟨rfl, rfl, bN, rfl, rfl⟩ kd4
  ·have hx4 : (qK k k2 = 0 ∧ yT k k2 = 0) ∨ (¬ qK k k2 = 0 ∧ yT k k2 = 1) := m9 _ _
   refine kK (qE 4 [.i (qK k k2), .b false]) ((qG .and .i64 k k2 = (qK k k2)) ∧ (¬ ((qK k k2) ≠ 0))) [(2, rV 0 0), (3, rV 1 0), (5, iV 0), (11, bV false)] [(0, some (59, (dW k r rn m c s sn))), (1, some (59, (dV k2 r2 rn2 m2 c2 s2 sn2)))] 2 ⟨rfl, zo⟩ ?_
   refine q9 ?_
   exact kW () [] (P := (kJ 0) ∧ (kJ 0) ∧ (((yT k k2) : Int) = 0) ∧ (kM [iD k, dl r rn, D.sl (kI m) c, dl s sn]) ∧ (kM [iD k2, dl r2 rn2, D.sl (kI m2) c2, dl s2 sn2])) zk ⟨rfl, rfl, bN, rfl, rfl⟩ kd4
 ·refine dN hcx [(2, rV 0 0), (3, rV 1 0), (5, iV (oS (yT k k2) (qM (kC r rn) (kC r2 rn2)) 2))] [(0, some (59, (dW k r rn m c s sn))), (1, some (59, (dV k2 r2 rn2 m2 c2 s2 sn2)))] 2 ?_ ?_
  ·by_cases hx9 : ((0 : Int) < (((qM (kC r rn) (kC r2 rn2)) : Nat) : Int))
   ·have hx10 : ((qM (kC r rn) (kC r2 rn2) : Nat) = 0 ∧ oS (yT k k2) (qM (kC r rn) (kC r2 rn2)) 2 = yT k k2) ∨ (1 ≤ qM (kC r rn) (kC r2 rn2) ∧ oS (yT k k2) (qM (kC r rn) (kC r2 rn2)) 2 = yT k k2 + 2) := nM _ _ _
    have hx11 : 0 ≤ yT k k2 ∧ yT k k2 ≤ 1 := (by have h9 := m9 k k2; omega)
    have hx12 : ((ka0 (uN (kC r rn) (kC r2 rn2))) = ((qM (kC r rn) (kC r2 rn2)) * 2)) := uR _ _
    have hx13 : ((qM (kC r rn) (kC r2 rn2)) ≤ 64) := aO _ _
    refine kK (qE 4 [.call [] (.e (.agg [.d (dl (uN (kC r rn) (kC r2 rn2)) (qM (kC r rn) (kC r2 rn2)))])) [] 0 [] none, .no, .no, .b true]) ((_) ∧ (((0 : Int) < (qM (kC r rn) (kC r2 rn2) : Int)))) [(2, rV 0 0), (3, rV 1 0), (5, iV (yT k k2)), (21, bV true)] [(0, some (59, (dW k r rn m c s sn))), (1, some (59, (dV k2 r2 rn2 m2 c2 s2 sn2)))] 2 ⟨(iJ r r2 rn rn2 zo zo zo zo), zo⟩ ?_
    refine zt ?_
    refine uT [.no, .i ((yT k k2) + 2), .no] (qG .or .i64 (yT k k2) 2 = ((yT k k2) + 2)) [(2, rV 0 0), (3, rV 1 0), (5, iV ((yT k k2) + 2))] (v2b zo) ?_
    exact kW () [] (P := (kJ 0) ∧ (kJ 0) ∧ (((oS (yT k k2) (qM (kC r rn) (kC r2 rn2)) 2) : Int) = ((yT k k2) + 2)) ∧ (kM [iD k, dl r rn, D.sl (kI m) c, dl s sn]) ∧ (kM [iD k2, dl r2 rn2, D.sl (kI m2) c2, dl s2 sn2])) zk ⟨rfl, rfl, bN, rfl, rfl⟩ kd4
   ·have hx14 : ((qM (kC r rn) (kC r2 rn2) : Nat) = 0 ∧ oS (yT k k2) (qM (kC r rn) (kC r2 rn2)) 2 = yT k k2) ∨ (1 ≤ qM (kC r rn) (kC r2 rn2) ∧ oS (yT k k2) (qM (kC r rn) (kC r2 rn2)) 2 = yT k k2 + 2) := nM _ _ _
    have hx15 : 0 ≤ yT k k2 ∧ yT k k2 ≤ 1 := (by have h9 := m9 k k2; omega)
    have hx16 : ((ka0 (uN (kC r rn) (kC r2 rn2))) = ((qM (kC r rn) (kC r2 rn2)) * 2)) := uR _ _
    have hx17 : ((qM (kC r rn) (kC r2 rn2)) ≤ 64) := aO _ _
    refine kK (qE 4 [.call [] (.e (.agg [.d (dl (uN (kC r rn) (kC r2 rn2)) (qM (kC r rn) (kC r2 rn2)))])) [] 0 [] none, .no, .no, .b false]) ((_) ∧ (¬ ((0 : Int) < (qM (kC r rn) (kC r2 rn2) : Int)))) [(2, rV 0 0), (3, rV 1 0), (5, iV (yT k k2)), (21, bV false)] [(0, some (59, (dW k r rn m c s sn))), (1, some (59, (dV k2 r2 rn2 m2 c2 s2 sn2)))] 2 ⟨(iJ r r2 rn rn2 zo zo zo zo), zo⟩ ?_
    refine q9 ?_
    exact kW () [] (P := (kJ 0) ∧ (kJ 0) ∧ (((oS (yT k k2) (qM (kC r rn) (kC r2 rn2)) 2) : Int) = (yT k k2)) ∧ (kM [iD k, dl r rn, D.sl (kI m) c, dl s sn]) ∧ (kM [iD k2, dl r2 rn2, D.sl (kI m2) c2, dl s2 sn2])) zk ⟨rfl, rfl, bN, rfl, rfl⟩ kd4
  ·refine dN hcx [(2, rV 0 0), (3, rV 1 0), (5, iV (oS (oS (yT k k2) (qM (kC r rn) (kC r2 rn2)) 2) (ka0 (uK m m2 c)) 4))] [(0, some (59, (dW k r rn m c s sn))), (1, some (59, (dV k2 r2 rn2 m2 c2 s2 sn2)))] 2 ?_ ?_
   ·by_cases hx21 : ((0 : Int) < (((ka0 (uK m m2 c)) : Nat) : Int))
    ·have hx22 : ((ka0 (uK m m2 c) : Nat) = 0 ∧ oS (oS (yT k k2) (qM (kC r rn) (kC r2 rn2)) 2) (ka0 (uK m m2 c)) 4 = oS (yT k k2) (qM (kC r rn) (kC r2 rn2)) 2) ∨ (1 ≤ ka0 (uK m m2 c) ∧ oS (oS (yT k k2) (qM (kC r rn) (kC r2 rn2)) 2) (ka0 (uK m m2 c)) 4 = oS (yT k k2) (qM (kC r rn) (kC r2 rn2)) 2 + 4) := nM _ _ _
     have hx23 : 0 ≤ oS (yT k k2) (qM (kC r rn) (kC r2 rn2)) 2 ∧ oS (yT k k2) (qM (kC r rn) (kC r2 rn2)) 2 ≤ 3 := (by have h9 := m9 k k2; have h8 := nM (yT k k2) (qM (kC r rn) (kC r2 rn2)) 2; omega)
     have hx24 : ((ka0 (uK m m2 c)) ≤ c) := bT m m2 c
     refine kK (qE 4 [.call [] (.e (.c (.d (D.sl (kI (uK m m2 c)) (ka0 (uK m m2 c)))))) [] 0 [] none, .no, .b true]) ((_) ∧ (((0 : Int) < (ka0 (uK m m2 c) : Int)))) [(2, rV 0 0), (3, rV 1 0), (5, iV (oS (yT k k2) (qM (kC r rn) (kC r2 rn2)) 2)), (30, bV true)] [(0, some (59, (dW k r rn m c s sn))), (1, some (59, (dV k2 r2 rn2 m2 c2 s2 sn2)))] 2 ⟨(k63 m m2 c c2 zo zo zo zo (qD : MsW m) (qD : MsW m2)), zo⟩ ?_
     refine zt ?_
     refine uT [.no, .i ((oS (yT k k2) (qM (kC r rn) (kC r2 rn2)) 2) + 4), .no] (qG .or .i64 (oS (yT k k2) (qM (kC r rn) (kC r2 rn2)) 2) 4 = ((oS (yT k k2) (qM (kC r rn) (kC r2 rn2)) 2) + 4)) [(2, rV 0 0), (3, rV 1 0), (5, iV ((oS (yT k k2) (qM (kC r rn) (kC r2 rn2)) 2) + 4))] (v2a zo) ?_
     exact kW () [] (P := (kJ 0) ∧ (kJ 0) ∧ (((oS (oS (yT k k2) (qM (kC r rn) (kC r2 rn2)) 2) (ka0 (uK m m2 c)) 4) : Int) = ((oS (yT k k2) (qM (kC r rn) (kC r2 rn2)) 2) + 4)) ∧ (kM [iD k, dl r rn, D.sl (kI m) c, dl s sn]) ∧ (kM [iD k2, dl r2 rn2, D.sl (kI m2) c2, dl s2 sn2])) zk ⟨rfl, rfl, bN, rfl, rfl⟩ kd4
    ·have hx25 : ((ka0 (uK m m2 c) : Nat) = 0 ∧ oS (oS (yT k k2) (qM (kC r rn) (kC r2 rn2)) 2) (ka0 (uK m m2 c)) 4 = oS (yT k k2) (qM (kC r rn) (kC r2 rn2)) 2) ∨ (1 ≤ ka0 (uK m m2 c) ∧ oS (oS (yT k k2) (qM (kC r rn) (kC r2 rn2)) 2) (ka0 (uK m m2 c)) 4 = oS (yT k k2) (qM (kC r rn) (kC r2 rn2)) 2 + 4) := nM _ _ _
     have hx26 : 0 ≤ oS (yT k k2) (qM (kC r rn) (kC r2 rn2)) 2 ∧ oS (yT k k2) (qM (kC r rn) (kC r2 rn2)) 2 ≤ 3 := (by have h9 := m9 k k2; have h8 := nM (yT k k2) (qM (kC r rn) (kC r2 rn2)) 2; omega)
     have hx27 : ((ka0 (uK m m2 c)) ≤ c) := bT m m2 c
     refine kK (qE 4 [.call [] (.e (.c (.d (D.sl (kI (uK m m2 c)) (ka0 (uK m m2 c)))))) [] 0 [] none, .no, .b false]) ((_) ∧ (¬ ((0 : Int) < (ka0 (uK m m2 c) : Int)))) [(2, rV 0 0), (3, rV 1 0), (5, iV (oS (yT k k2) (qM (kC r rn) (kC r2 rn2)) 2)), (30, bV false)] [(0, some (59, (dW k r rn m c s sn))), (1, some (59, (dV k2 r2 rn2 m2 c2 s2 sn2)))] 2 ⟨(k63 m m2 c c2 zo zo zo zo (qD : MsW m) (qD : MsW m2)), zo⟩ ?_
     refine q9 ?_
     exact kW () [] (P := (kJ 0) ∧ (kJ 0) ∧ (((oS (oS (yT k k2) (qM (kC r rn) (kC r2 rn2)) 2) (ka0 (uK m m2 c)) 4) : Int) = (oS (yT k k2) (qM (kC r rn) (kC r2 rn2)) 2)) ∧ (kM [iD k, dl r rn, D.sl (kI m) c, dl s sn]) ∧ (kM [iD k2, dl r2 rn2, D.sl (kI m2) c2, dl s2 sn2])) zk ⟨rfl, rfl, bN, rfl, rfl⟩ kd4
   ·refine dN hcx [(5, iV (oS (oS (oS (yT k k2) (qM (kC r rn) (kC r2 rn2)) 2) (ka0 (uK m m2 c)) 4) (qM (kC s sn) (kC s2 sn2)) 8))] [] 2 ?_ ?_
    ·by_cases hx32 : ((0 : Int) < (((qM (kC s sn) (kC s2 sn2)) : Nat) : Int))
     ·have hx33 : ((qM (kC s sn) (kC s2 sn2) : Nat) = 0 ∧ oS (oS (oS (yT k k2) (qM (kC r rn) (kC r2 rn2)) 2) (ka0 (uK m m2 c)) 4) (qM (kC s sn) (kC s2 sn2)) 8 = oS (oS (yT k k2) (qM (kC r rn) (kC r2 rn2)) 2) (ka0 (uK m m2 c)) 4) ∨ (1 ≤ qM (kC s sn) (kC s2 sn2) ∧ oS (oS (oS (yT k k2) (qM (kC r rn) (kC r2 rn2)) 2) (ka0 (uK m m2 c)) 4) (qM (kC s sn) (kC s2 sn2)) 8 = oS (oS (yT k k2) (qM (kC r rn) (kC r2 rn2)) 2) (ka0 (uK m m2 c)) 4 + 8) := nM _ _ _
      have hx34 : 0 ≤ oS (oS (yT k k2) (qM (kC r rn) (kC r2 rn2)) 2) (ka0 (uK m m2 c)) 4 ∧ oS (oS (yT k k2) (qM (kC r rn) (kC r2 rn2)) 2) (ka0 (uK m m2 c)) 4 ≤ 7 := (by have h9 := m9 k k2; have h8 := nM (yT k k2) (qM (kC r rn) (kC r2 rn2)) 2; have h7 := nM (oS (yT k k2) (qM (kC r rn) (kC r2 rn2)) 2) (ka0 (uK m m2 c)) 4; omega)
      have hx35 : ((ka0 (uN (kC s sn) (kC s2 sn2))) = ((qM (kC s sn) (kC s2 sn2)) * 2)) := uR _ _
      have hx36 : ((qM (kC s sn) (kC s2 sn2)) ≤ 64) := aO _ _
      refine kK (qE 4 [.call [] (.e (.agg [.d (dl (uN (kC s sn) (kC s2 sn2)) (qM (kC s sn) (kC s2 sn2)))])) [] 0 [] none, .no, .no, .b true]) ((_) ∧ (((0 : Int) < (qM (kC s sn) (kC s2 sn2) : Int)))) [(5, iV (oS (oS (yT k k2) (qM (kC r rn) (kC r2 rn2)) 2) (ka0 (uK m m2 c)) 4)), (40, bV true)] [] 2 ⟨(iJ s s2 sn sn2 zo zo zo zo), zo⟩ ?_
      refine zt ?_
      refine uT [.no, .i ((oS (oS (yT k k2) (qM (kC r rn) (kC r2 rn2)) 2) (ka0 (uK m m2 c)) 4) + 8), .no] (qG .or .i64 (oS (oS (yT k k2) (qM (kC r rn) (kC r2 rn2)) 2) (ka0 (uK m m2 c)) 4) 8 = ((oS (oS (yT k k2) (qM (kC r rn) (kC r2 rn2)) 2) (ka0 (uK m m2 c)) 4) + 8)) [(5, iV ((oS (oS (yT k k2) (qM (kC r rn) (kC r2 rn2)) 2) (ka0 (uK m m2 c)) 4) + 8))] (v29 zo) ?_
      exact kW () [] (P := (((oS (oS (oS (yT k k2) (qM (kC r rn) (kC r2 rn2)) 2) (ka0 (uK m m2 c)) 4) (qM (kC s sn) (kC s2 sn2)) 8) : Int) = ((oS (oS (yT k k2) (qM (kC r rn) (kC r2 rn2)) 2) (ka0 (uK m m2 c)) 4) + 8))) zk bN kd4
     ·have hx37 : ((qM (kC s sn) (kC s2 sn2) : Nat) = 0 ∧ oS (oS (oS (yT k k2) (qM (kC r rn) (kC r2 rn2)) 2) (ka0 (uK m m2 c)) 4) (qM (kC s sn) (kC s2 sn2)) 8 = oS (oS (yT k k2) (qM (kC r rn) (kC r2 rn2)) 2) (ka0 (uK m m2 c)) 4) ∨ (1 ≤ qM (kC s sn) (kC s2 sn2) ∧ oS (oS (oS (yT k k2) (qM (kC r rn) (kC r2 rn2)) 2) (ka0 (uK m m2 c)) 4) (qM (kC s sn) (kC s2 sn2)) 8 = oS (oS (yT k k2) (qM (kC r rn) (kC r2 rn2)) 2) (ka0 (uK m m2 c)) 4 + 8) := nM _ _ _
      have hx38 : 0 ≤ oS (oS (yT k k2) (qM (kC r rn) (kC r2 rn2)) 2) (ka0 (uK m m2 c)) 4 ∧ oS (oS (yT k k2) (qM (kC r rn) (kC r2 rn2)) 2) (ka0 (uK m m2 c)) 4 ≤ 7 := (by have h9 := m9 k k2; have h8 := nM (yT k k2) (qM (kC r rn) (kC r2 rn2)) 2; have h7 := nM (oS (yT k k2) (qM (kC r rn) (kC r2 rn2)) 2) (ka0 (uK m m2 c)) 4; omega)
      have hx39 : ((ka0 (uN (kC s sn) (kC s2 sn2))) = ((qM (kC s sn) (kC s2 sn2)) * 2)) := uR _ _
      have hx40 : ((qM (kC s sn) (kC s2 sn2)) ≤ 64) := aO _ _
      refine kK (qE 4 [.call [] (.e (.agg [.d (dl (uN (kC s sn) (kC s2 sn2)) (qM (kC s sn) (kC s2 sn2)))])) [] 0 [] none, .no, .no, .b false]) ((_) ∧ (¬ ((0 : Int) < (qM (kC s sn) (kC s2 sn2) : Int)))) [(5, iV (oS (oS (yT k k2) (qM (kC r rn) (kC r2 rn2)) 2) (ka0 (uK m m2 c)) 4)), (40, bV false)] [] 2 ⟨(iJ s s2 sn sn2 zo zo zo zo), zo⟩ ?_
      refine q9 ?_
      exact kW () [] (P := (((oS (oS (oS (yT k k2) (qM (kC r rn) (kC r2 rn2)) 2) (ka0 (uK m m2 c)) 4) (qM (kC s sn) (kC s2 sn2)) 8) : Int) = (oS (oS (yT k k2) (qM (kC r rn) (kC r2 rn2)) 2) (ka0 (uK m m2 c)) 4))) zk bN kd4
    ·refine kK [.no, .no] True [(4, iV (oS (oS (oS (yT k k2) (qM (kC r rn) (kC r2 rn2)) 2) (ka0 (uK m m2 c)) 4) (qM (kC s sn) (kC s2 sn2)) 8))] [] 2 trivial ?_
     refine AW.ret ?_
     exact kA (.inr rfl) [] (P := (((x7 k r rn m c s sn k2 r2 rn2 m2 s2 sn2) : Int) = (oS (oS (oS (yT k k2) (qM (kC r rn) (kC r2 rn2)) 2) (ka0 (uK m m2 c)) 4) (qM (kC s sn) (kC s2 sn2)) 8))) zk (by first | rfl | omega)
theorem lW {p : Prop} (h : p := by first | exact decide_eq_true (by omega) | exact decide_eq_false (by omega)) : p := h
theorem v1m (l : List Int) (n : Nat) (v : Int) (hn : ka0 l = n) (h1 : n ≤ 1000000) : Fun 74 [.c (.d (D.sl (dI .i64 l) n)), iE v] (kH []) 0 (.e (.c (.d (D.lit (.bool (ctB l n v)))))) (kH []) 0 := by
 refine Fun.mk (n := 9) Tryz.func74 rfl rfl (ka4 rfl) ?_
 intro cx hcx
 refine kK [.no] True [(0, sV .i64 l n), (1, iV v)] [] 0 trivial ?_
 by_cases hx2 : ((0 : Int) ≤ (qV l v n))
 ·have hx3 : ((((-1) : Int) ≤ (qV l v n)) ∧ ((qV l v n) < ((n : Nat) : Int))) := vH l v n
  refine kO [.no, .no, .call [] (iV (qV l v n)) [] 0 [] none, .b true, .no] ((_) ∧ (((0 : Int) ≤ (qV l v n)))) [(4, bV true)] ⟨(pV l n v zo zo), zo⟩ ?_
  refine AW.ret ?_
  exact kA (.inr rfl) [] (P := ((ctB l n v) = true)) zk lW
 ·have hx4 : ((((-1) : Int) ≤ (qV l v n)) ∧ ((qV l v n) < ((n : Nat) : Int))) := vH l v n
  refine kO [.no, .no, .call [] (iV (qV l v n)) [] 0 [] none, .b false, .no] ((_) ∧ (¬ ((0 : Int) ≤ (qV l v n)))) [(4, bV false)] ⟨(pV l n v zo zo), zo⟩ ?_
  refine AW.ret ?_
  exact kA (.inr rfl) [] (P := ((ctB l n v) = false)) zk lW
theorem u5f (d s : Int)  : Fun 75 [iE d, .c (.ptr 0 0)] (kH [(0, some (3, .ds [iD s]))]) 1 (.e (.c (.d (D.lit (.bool (stB d s)))))) (kH [(0, some (3, .ds [iD s]))]) 1 := by
 refine Fun.mk (n := 9) Tryz.func75 rfl rfl (ka4 rfl) ?_
 intro cx hcx
 refine kK [.no] True [(0, iV d), (1, rV 0 0)] [(0, some (3, .ds [iD s]))] 1 trivial ?_
 by_cases hx1 : ((qK d s) = s)
 ·refine kO [.no, .no, .i (qK d s), .no, .b true, .no] ((qG .and .i64 d s = (qK d s)) ∧ (((qK d s) = s))) [(3, bV true)] ⟨rfl, zo⟩ ?_
  refine AW.ret ?_
  exact kA (.inr rfl) [] (P := ((stB d s) = true) ∧ (kM [iD s])) zk ⟨lW, rfl⟩
 ·refine kO [.no, .no, .i (qK d s), .no, .b false, .no] ((qG .and .i64 d s = (qK d s)) ∧ (¬ ((qK d s) = s))) [(3, bV false)] ⟨rfl, zo⟩ ?_
  refine AW.ret ?_
  exact kA (.inr rfl) [] (P := ((stB d s) = false) ∧ (kM [iD s])) zk ⟨lW, rfl⟩
theorem u5e (l : List Int) (n : Nat) (s : Int) (hn : ka0 l = n) (h1 : n ≤ 1000000) : Fun 119 [.c (.d (D.sl (dI .i64 l) n)), .c (.fn 75 [(0, 0)])] (kH [(0, some (3, .ds [iD s]))]) 1 (iV (mtK l s n)) (kH [(0, some (3, .ds [iD s]))]) 1 := by
 refine Fun.mk (n := 19) Tryz.func119 rfl rfl (ka4 rfl) ?_
 intro cx hcx
 refine kK [.no] True [(0, sV .i64 l n), (1, .e (.c (.fn 75 [(0, 0)])))] [(0, some (3, .ds [iD s]))] 1 trivial ?_
 refine AW.seq ?_
 refine kO [.no, .no, .no] True [(0, sV .i64 l n), (1, .e (.c (.fn 75 [(0, 0)]))), (7, uV n), (8, iV 0)] trivial ?_
 refine AW.block ?_
 refine kY 1 hcx (fun (x : {x : Nat // match x with | k => (k ≤ n) ∧ (mtK l s k = -1)}) => match x with | ⟨k, _⟩ => (⟨[(0, sV .i64 l n), (1, .e (.c (.fn 75 [(0, 0)]))), (7, uV n), (8, uV k)], [(0, some (3, .ds [iD s]))], 1⟩ : ES)) (fun x => match x with | ⟨k, _⟩ => n - k) ⟨(0 : Nat), ⟨a5, rfl⟩⟩ [] (P := (kM (dI .i64 l)) ∧ (kJ n) ∧ (kN (n : Int)) ∧ (kN 0) ∧ (kM [iD s])) zk ⟨rfl, rfl, rfl, rfl, rfl⟩ ?_
 rintro ⟨k, hinv0⟩
 obtain ⟨hk, hi⟩ : (k ≤ n) ∧ (mtK l s k = -1) := hinv0
 refine qS (l := [(0, sV .i64 l n), (1, .e (.c (.fn 75 [(0, 0)]))), (7, uV n), (8, uV k)]) (g := [(0, some (3, .ds [iD s]))]) (nx := 1) rfl rfl rfl ?_
 by_cases hx1 : (((k : Nat) : Int) < ((n : Nat) : Int))
 ·refine kK [.b true] (((k : Int) < (n : Int))) [(0, sV .i64 l n), (1, .e (.c (.fn 75 [(0, 0)]))), (7, uV n), (8, uV k), (9, bV true)] [(0, some (3, .ds [iD s]))] 1 zo ?_
  refine AW.seq ?_
  refine vB ?_
  refine AW.seq ?_
  refine AW.block ?_
  refine kO [.no, .no] True [(0, sV .i64 l n), (1, .e (.c (.fn 75 [(0, 0)]))), (5, uV k), (7, uV n), (8, uV k)] trivial ?_
  rcases ka9 (stB (ka1 l k 0) s) with hx2 | hx2
  ·refine kO [.no, .no, .no, .n k, .d (D.lit (.int .i64 (ka1 l k 0))), .call [0] (bV true) [(0, some (3, .ds [iD s]))] 1 [] none] ((kN (k : Int)) ∧ (k < n) ∧ ((ka3 k (dI .i64 l))[0]? = some (D.lit (.int .i64 (ka1 l k 0)))) ∧ (Fun 75 [iE (ka1 l k 0), .c (.ptr 0 0)] (kH [(0, some (3, .ds [iD s]))]) 1 (bV true) (kH [(0, some (3, .ds [iD s]))]) 1)) [(0, sV .i64 l n), (1, .e (.c (.fn 75 [(0, 0)]))), (5, uV k), (7, uV n), (8, uV k), (16, bV true)] ⟨rfl, zo, (q8 _ _ _ dO), (by have h0 := (u5f (ka1 l k 0) s); rw [hx2] at h0; exact h0)⟩ ?_
   refine zt ?_
   refine kO [.no, .no] True [(4, uV k)] trivial ?_
   refine AW.ret ?_
   exact kA (.inr rfl) [] (P := (((mtK l s n) : Int) = (k : Int)) ∧ (kM [iD s])) zk ⟨(by first | rfl | exact u4d hi (by assumption) zo | (rw [show n = k by omega]; exact hi) | omega), rfl⟩
  ·refine kO [.no, .no, .no, .n k, .d (D.lit (.int .i64 (ka1 l k 0))), .call [0] (bV false) [(0, some (3, .ds [iD s]))] 1 [] none] ((kN (k : Int)) ∧ (k < n) ∧ ((ka3 k (dI .i64 l))[0]? = some (D.lit (.int .i64 (ka1 l k 0)))) ∧ (Fun 75 [iE (ka1 l k 0), .c (.ptr 0 0)] (kH [(0, some (3, .ds [iD s]))]) 1 (bV false) (kH [(0, some (3, .ds [iD s]))]) 1)) [(0, sV .i64 l n), (1, .e (.c (.fn 75 [(0, 0)]))), (5, uV k), (7, uV n), (8, uV k), (16, bV false)] ⟨rfl, zo, (q8 _ _ _ dO), (by have h0 := (u5f (ka1 l k 0) s); rw [hx2] at h0; exact h0)⟩ ?_
   refine q9 ?_
   refine uT [.w, .no] ((-9223372036854775808) ≤ ((k : Int) + 1) ∧ ((k : Int) + 1) ≤ 9223372036854775807) [(0, sV .i64 l n), (1, .e (.c (.fn 75 [(0, 0)]))), (7, uV n), (8, iV (↑k + 1))] ⟨by omega, by omega⟩ ?_
   exact kW ⟨((k + 1) : Nat), ⟨a5, (v00 hi (by assumption))⟩⟩ [] (P := (kM (dI .i64 l)) ∧ (kJ n) ∧ (kN (n : Int)) ∧ (((((k + 1) : Nat) : Int) : Int) = ((k : Int) + 1)) ∧ (kM [iD s])) zk ⟨rfl, rfl, rfl, bN, rfl⟩ (show n - (k + 1) < n - k from eP)
 ·refine kK [.b false] (¬ ((k : Int) < (n : Int))) [(0, sV .i64 l n), (1, .e (.c (.fn 75 [(0, 0)]))), (7, uV n), (8, uV k), (9, bV false)] [(0, some (3, .ds [iD s]))] 1 zo ?_
  refine AW.seq ?_
  refine zf ?_
  refine AW.exit ?_
  refine kK [.no] True [(4, iV (-1))] [(0, some (3, .ds [iD s]))] 1 trivial ?_
  refine AW.ret ?_
  exact kA (.inr rfl) [] (P := (((mtK l s n) : Int) = (-1)) ∧ (kM [iD s])) zk ⟨(by first | rfl | exact u4d hi (by assumption) zo | (rw [show n = k by omega]; exact hi) | omega), rfl⟩
theorem u8f (l : List Int) (n : Nat) (s : Int) (hn : ka0 l = n) (h1 : n ≤ 1000000) : Fun 76 [.c (.d (D.sl (dI .i64 l) n)), .c (.fn 75 [(0, 0)])] (kH [(0, some (3, .ds [iD s]))]) 1 (.e (.c (.d (D.lit (.bool (zC l n s)))))) (kH [(0, some (3, .ds [iD s]))]) 1 := by
 refine Fun.mk (n := 9) Tryz.func76 rfl rfl (ka4 rfl) ?_
 intro cx hcx
 refine kK [.no] True [(0, sV .i64 l n), (1, .e (.c (.fn 75 [(0, 0)])))] [(0, some (3, .ds [iD s]))] 1 trivial ?_
 by_cases hx1 : ((0 : Int) ≤ (mtK l s n))
 ·refine kO [.no, .no, .call [0] (iV (mtK l s n)) [(0, some (3, .ds [iD s]))] 1 [] none, .b true, .no] ((_) ∧ (((0 : Int) ≤ (mtK l s n)))) [(4, bV true)] ⟨(u5e l n s zo zo), zo⟩ ?_
  refine AW.ret ?_
  exact kA (.inr rfl) [] (P := ((zC l n s) = true) ∧ (kM [iD s])) zk ⟨lW, rfl⟩
 ·refine kO [.no, .no, .call [0] (iV (mtK l s n)) [(0, some (3, .ds [iD s]))] 1 [] none, .b false, .no] ((_) ∧ (¬ ((0 : Int) ≤ (mtK l s n)))) [(4, bV false)] ⟨(u5e l n s zo zo), zo⟩ ?_
  refine AW.ret ?_
  exact kA (.inr rfl) [] (P := ((zC l n s) = false) ∧ (kM [iD s])) zk ⟨lW, rfl⟩
theorem u8e (x : Int) (h1 : 0 ≤ x ∧ x ≤ 15) : Fun 121 [.c (.d (D.lit (.int .u64 x)))] (kH []) 0 (iV (uY x)) (kH []) 0 := by
 have hxr : (0 ≤ zB x ∧ zB x ≤ 5) ∧ (0 ≤ zA x ∧ zA x ≤ 5) ∧ (0 ≤ sJ x ∧ sJ x ≤ 2) ∧ (0 ≤ sI x ∧ sI x ≤ 2) ∧ 0 ≤ uY x ∧ uY x ≤ 4 := v2c h1
 refine Fun.mk (n := 35) Tryz.func121 rfl rfl (ka4 rfl) ?_
 intro cx hcx
 refine kK [.no] True [(0, .e (.c (.d (D.lit (.int .u64 x)))))] [] 0 trivial ?_
 refine kO [.no, .n 1, .i (zB x), .no, .i (zA x), .w, .no] ((kN 1) ∧ ((1 : Nat) ≤ 64) ∧ (qG .and .u64 (x / 2) 6148914691236517205 = (zB x)) ∧ (qG .and .u64 x 6148914691236517205 = (zA x)) ∧ (0 ≤ ((zB x) + (zA x)) ∧ ((zB x) + (zA x)) ≤ 18446744073709551615)) [(0, .e (.c (.d (D.lit (.int .u64 ((zB x) + (zA x)))))))] ⟨rfl, zo, (v2i h1), (v2h h1), ⟨by omega, by omega⟩⟩ ?_
 refine kO [.no, .n 2, .i (sJ x), .no, .i (sI x), .w, .no] ((kN 2) ∧ ((2 : Nat) ≤ 64) ∧ (qG .and .u64 (((zB x) + (zA x)) / 4) 3689348814741910323 = (sJ x)) ∧ (qG .and .u64 ((zB x) + (zA x)) 3689348814741910323 = (sI x)) ∧ (0 ≤ ((sJ x) + (sI x)) ∧ ((sJ x) + (sI x)) ≤ 18446744073709551615)) [(0, .e (.c (.d (D.lit (.int .u64 ((sJ x) + (sI x)))))))] ⟨rfl, zo, (v2g h1), (v2f h1), ⟨by omega, by omega⟩⟩ ?_
 refine kO [.no, .n 4, .no, .w, .i (uY x), .no] ((kN 4) ∧ ((4 : Nat) ≤ 64) ∧ (0 ≤ ((((sJ x) + (sI x)) / 16) + ((sJ x) + (sI x))) ∧ ((((sJ x) + (sI x)) / 16) + ((sJ x) + (sI x))) ≤ 18446744073709551615) ∧ (qG .and .u64 ((((sJ x) + (sI x)) / 16) + ((sJ x) + (sI x))) 1085102592571150095 = (uY x))) [(0, .e (.c (.d (D.lit (.int .u64 (uY x))))))] ⟨rfl, zo, ⟨by omega, by omega⟩, (v2e h1 zo)⟩ ?_
 refine kO [.no, .no, .n 8, .w, .no] ((kN 8) ∧ ((8 : Nat) ≤ 64) ∧ (0 ≤ ((uY x) + ((uY x) / 256)) ∧ ((uY x) + ((uY x) / 256)) ≤ 18446744073709551615)) [(0, .e (.c (.d (D.lit (.int .u64 ((uY x) + ((uY x) / 256)))))))] ⟨rfl, zo, ⟨by omega, by omega⟩⟩ ?_
 refine kO [.no, .no, .n 16, .w, .no] ((kN 16) ∧ ((16 : Nat) ≤ 64) ∧ (0 ≤ (((uY x) + ((uY x) / 256)) + (((uY x) + ((uY x) / 256)) / 65536)) ∧ (((uY x) + ((uY x) / 256)) + (((uY x) + ((uY x) / 256)) / 65536)) ≤ 18446744073709551615)) [(0, .e (.c (.d (D.lit (.int .u64 (((uY x) + ((uY x) / 256)) + (((uY x) + ((uY x) / 256)) / 65536)))))))] ⟨rfl, zo, ⟨by omega, by omega⟩⟩ ?_
 refine kO [.no, .no, .n 32, .w, .no] ((kN 32) ∧ ((32 : Nat) ≤ 64) ∧ (0 ≤ ((((uY x) + ((uY x) / 256)) + (((uY x) + ((uY x) / 256)) / 65536)) + ((((uY x) + ((uY x) / 256)) + (((uY x) + ((uY x) / 256)) / 65536)) / 4294967296)) ∧ ((((uY x) + ((uY x) / 256)) + (((uY x) + ((uY x) / 256)) / 65536)) + ((((uY x) + ((uY x) / 256)) + (((uY x) + ((uY x) / 256)) / 65536)) / 4294967296)) ≤ 18446744073709551615)) [(0, .e (.c (.d (D.lit (.int .u64 ((((uY x) + ((uY x) / 256)) + (((uY x) + ((uY x) / 256)) / 65536)) + ((((uY x) + ((uY x) / 256)) + (((uY x) + ((uY x) / 256)) / 65536)) / 4294967296)))))))] ⟨rfl, zo, ⟨by omega, by omega⟩⟩ ?_
 refine kO [.no, .w, .i (uY x), .no] (((-9223372036854775808) ≤ ((((uY x) + ((uY x) / 256)) + (((uY x) + ((uY x) / 256)) / 65536)) + ((((uY x) + ((uY x) / 256)) + (((uY x) + ((uY x) / 256)) / 65536)) / 4294967296)) ∧ ((((uY x) + ((uY x) / 256)) + (((uY x) + ((uY x) / 256)) / 65536)) + ((((uY x) + ((uY x) / 256)) + (((uY x) + ((uY x) / 256)) / 65536)) / 4294967296)) ≤ 9223372036854775807) ∧ (qG .and .i64 ((((uY x) + ((uY x) / 256)) + (((uY x) + ((uY x) / 256)) / 65536)) + ((((uY x) + ((uY x) / 256)) + (((uY x) + ((uY x) / 256)) / 65536)) / 4294967296)) 127 = (uY x))) [(2, iV (uY x))] ⟨⟨by omega, by omega⟩, (v2d h1 zo)⟩ ?_
 refine AW.ret ?_
 exact kA (.inr rfl) [] (P := (kN (uY x))) zk rfl
theorem u3u (x : Int) (h1 : 0 ≤ x ∧ x ≤ 15) : Fun 77 [.c (.d (D.lit (.int .u64 x)))] (kH []) 0 (iV (uY x)) (kH []) 0 := by
 refine Fun.mk (n := 8) Tryz.func77 rfl rfl (ka4 rfl) ?_
 intro cx hcx
 refine kK [.no] True [(0, .e (.c (.d (D.lit (.int .u64 x)))))] [] 0 trivial ?_
 refine AW.seq ?_
 refine m8 (.lit rfl) ?_
 refine AW.skip ?_
 refine kO [.no, .call [] (iV (uY x)) [] 0 [] none, .no] _ [(2, iV (uY x))] (u8e x zo) ?_
 refine AW.ret ?_
 exact kA (.inr rfl) [] (P := (kN (uY x))) zk rfl
abbrev fA (a : List Bx) (i : Nat) : BC := .ds [iD (kQ (kF a) i), D.sl (dI .i64 (kZ (kF a) i)) (kX (kF a) i), D.sl (kI (kL (kF a) i)) (ka0 (kL (kF a) i)), D.sl (dI .i64 (qA (kF a) i)) (k8 (kF a) i)]
theorem iL (a b : List Bx) (n m : Nat) (hn : ka0 a = n) (hm : ka0 b = m) (h1 : n ≤ 1000) (h2 : m ≤ 1000) (hW : BsW a) (hV : BsW b) : Fun 31 [.c (.d (D.sl (kE a) n)), .c (.d (D.sl (kE b) m))] (kH []) 0 (iV (qN a b)) (kH []) 0 := by
 have hL1 : ka0 (kF a) ≤ 64 ∧ ka0 (kF b) ≤ 64 := ⟨u0h a, u0h b⟩
 refine Fun.mk (n := 63) Tryz.func31 rfl rfl (ka4 rfl) ?_
 intro cx hcx
 refine kK [.no] True [(0, .e (.c (.d (D.sl (kE a) n)))), (1, .e (.c (.d (D.sl (kE b) m))))] [] 0 trivial ?_
 refine kO [.no] True [(0, .e (.c (.d (D.sl (kE a) n)))), (1, .e (.c (.d (D.sl (kE b) m)))), (5, nV)] trivial ?_
 refine AW.seq ?_
 have hx1 : ((ka0 (kF a)) ≤ n) := (by have h9 := mW a; omega)
 refine kO [.no, .call [] (.e (.c (.d (D.sl (kE (kF a)) (ka0 (kF a)))))) [] 0 [] none, .no, .no] _ [(1, .e (.c (.d (D.sl (kE b) m)))), (5, nV), (14, .e (.c (.d (D.sl (kE (kF a)) (ka0 (kF a)))))), (15, uV (ka0 (kF a))), (16, iV 0)] (oI a n zo zo (qD : BsW a)) ?_
 refine AW.block ?_
 refine AW.adoptS 5 1 3 rfl ?_
 refine kY 0 hcx (fun (x : {x : Nat × Nat × List Int // match x with | (i, q, o) => (i ≤ ka0 (kF a)) ∧ (dA (kF a) (kF b) i = o) ∧ (ka0 o = q) ∧ (q ≤ i * 64)}) => match x with | ⟨(i, q, o), _⟩ => (⟨[(1, .e (.c (.d (D.sl (kE b) m)))), (5, oV 1 0 q 1), (14, .e (.c (.d (D.sl (kE (kF a)) (ka0 (kF a)))))), (15, uV (ka0 (kF a))), (16, uV i)], [(1, some (3, .ds (dI .i64 o)))], 2⟩ : ES)) (fun x => match x with | ⟨(i, q, o), _⟩ => ka0 (kF a) - i) ⟨((0 : Nat), (0 : Nat), (([] : List Int) : List Int)), ⟨a5, rfl, rfl, zo⟩⟩ [(1, 0)] (P := (kM (kE b)) ∧ (kJ m) ∧ (kJ 0) ∧ (kJ 0) ∧ (kM (kE (kF a))) ∧ (kJ (ka0 (kF a))) ∧ (kN (ka0 (kF a) : Int)) ∧ (kN 0) ∧ (((dI .i64 ([] : List Int)) : List D) = ([] : List D))) zk ⟨rfl, rfl, rfl, rfl, rfl, rfl, rfl, rfl, (by first | rfl | with_reducible assumption)⟩ ?_
 rintro ⟨⟨i, q, o⟩, hinv0⟩
 obtain ⟨hi, ho, hq, hqm⟩ : (i ≤ ka0 (kF a)) ∧ (dA (kF a) (kF b) i = o) ∧ (ka0 o = q) ∧ (q ≤ i * 64) := hinv0
 refine qS (l := [(1, .e (.c (.d (D.sl (kE b) m)))), (5, oV 1 0 q 1), (14, .e (.c (.d (D.sl (kE (kF a)) (ka0 (kF a)))))), (15, uV (ka0 (kF a))), (16, uV i)]) (g := [(1, some (3, .ds (dI .i64 o)))]) (nx := 2) rfl rfl rfl ?_
 by_cases hx2 : (((i : Nat) : Int) < (((ka0 (kF a)) : Nat) : Int))
 ·refine kK [.b true] (((i : Int) < (ka0 (kF a) : Int))) [(1, .e (.c (.d (D.sl (kE b) m)))), (5, oV 1 0 q 1), (14, .e (.c (.d (D.sl (kE (kF a)) (ka0 (kF a)))))), (15, uV (ka0 (kF a))), (16, uV i), (17, bV true)] [(1, some (3, .ds (dI .i64 o)))] 2 zo ?_
  refine AW.seq ?_
  refine vB ?_
  refine AW.seq ?_
  refine AW.block ?_
  obtain ⟨hx3, hx4, hx5, hx6, hx7⟩ := BsW.at (bK (qD : BsW a)) (i)
  have hx8 : ((1 : Nat) ≤ (ka0 (kL (kF a) i))) := mV zo
  refine kK [.n i, .ds [iD (kQ (kF a) i), dl (kZ (kF a) i) (kX (kF a) i), D.sl (kI (kL (kF a) i)) (ka0 (kL (kF a) i)), dl (qA (kF a) i) (k8 (kF a) i)], .no, .no] ((kN (i : Int)) ∧ (i < (ka0 (kF a))) ∧ (List.take 4 (ka3 (i * 4) (kE (kF a))) = [iD (kQ (kF a) i), dl (kZ (kF a) i) (kX (kF a) i), D.sl (kI (kL (kF a) i)) (ka0 (kL (kF a) i)), dl (qA (kF a) i) (k8 (kF a) i)]) ∧ (([iD (kQ (kF a) i), dl (kZ (kF a) i) (kX (kF a) i), D.sl (kI (kL (kF a) i)) (ka0 (kL (kF a) i)), dl (qA (kF a) i) (k8 (kF a) i)] : List D).length = 4)) [(1, .e (.c (.d (D.sl (kE b) m)))), (5, oV 1 0 q 1), (7, rV 2 0), (14, .e (.c (.d (D.sl (kE (kF a)) (ka0 (kF a)))))), (15, uV (ka0 (kF a))), (16, uV i)] [(1, some (3, .ds (dI .i64 o))), (2, some (59, (fA a i)))] 3 ⟨rfl, zo, (yV k1l), rfl⟩ ?_
  have hx9 : ((ka0 (kF b)) ≤ m) := (by have h9 := mW b; omega)
  refine kO [.no, .call [] (.e (.c (.d (D.sl (kE (kF b)) (ka0 (kF b)))))) [] 0 [] none, .no, .no] _ [(1, .e (.c (.d (D.sl (kE b) m)))), (5, oV 1 0 q 1), (7, rV 2 0), (14, .e (.c (.d (D.sl (kE (kF a)) (ka0 (kF a)))))), (15, uV (ka0 (kF a))), (16, uV i), (21, .e (.c (.d (D.sl (kE (kF b)) (ka0 (kF b)))))), (22, uV (ka0 (kF b))), (23, iV 0)] (oI b m zo zo (qD : BsW b)) ?_
  refine AW.block ?_
  refine kY 0 hcx (fun (x : {x : Nat × Nat × List Int // match x with | (j, p, x) => (j ≤ ka0 (kF b)) ∧ (prJ (kF a) (kF b) i j = x) ∧ (ka0 x = p) ∧ (p ≤ i * 64 + j)}) => match x with | ⟨(j, p, x), _⟩ => (⟨[(1, .e (.c (.d (D.sl (kE b) m)))), (5, oV 3 0 p 1), (7, rV 2 0), (14, .e (.c (.d (D.sl (kE (kF a)) (ka0 (kF a)))))), (15, uV (ka0 (kF a))), (16, uV i), (21, .e (.c (.d (D.sl (kE (kF b)) (ka0 (kF b)))))), (22, uV (ka0 (kF b))), (23, uV j)], [(3, some (3, .ds (dI .i64 x))), (2, some (59, (fA a i)))], 4⟩ : ES)) (fun x => match x with | ⟨(j, p, x), _⟩ => ka0 (kF b) - j) ⟨((0 : Nat), (q : Nat), (o : List Int)), ⟨a5, (u9k ho), (by first | assumption | omega), zo⟩⟩ [(3, 1)] (P := (kM (kE b)) ∧ (kJ m) ∧ (kJ 0) ∧ (kJ q) ∧ (kJ 0) ∧ (kM (kE (kF a))) ∧ (kJ (ka0 (kF a))) ∧ (kN (ka0 (kF a) : Int)) ∧ (kN (i : Int)) ∧ (kM (kE (kF b))) ∧ (kJ (ka0 (kF b))) ∧ (kN (ka0 (kF b) : Int)) ∧ (kN 0) ∧ (kM (dI .i64 o)) ∧ (kM [iD (kQ (kF a) i), dl (kZ (kF a) i) (kX (kF a) i), D.sl (kI (kL (kF a) i)) (ka0 (kL (kF a) i)), dl (qA (kF a) i) (k8 (kF a) i)])) zk ⟨rfl, rfl, rfl, rfl, rfl, rfl, rfl, rfl, rfl, rfl, rfl, rfl, rfl, rfl, rfl⟩ ?_
  rintro ⟨⟨j, p, x⟩, hinv1⟩
  obtain ⟨hj, hJ, hp, hpm⟩ : (j ≤ ka0 (kF b)) ∧ (prJ (kF a) (kF b) i j = x) ∧ (ka0 x = p) ∧ (p ≤ i * 64 + j) := hinv1
  refine qS (l := [(1, .e (.c (.d (D.sl (kE b) m)))), (5, oV 3 0 p 1), (7, rV 2 0), (14, .e (.c (.d (D.sl (kE (kF a)) (ka0 (kF a)))))), (15, uV (ka0 (kF a))), (16, uV i), (21, .e (.c (.d (D.sl (kE (kF b)) (ka0 (kF b)))))), (22, uV (ka0 (kF b))), (23, uV j)]) (g := [(3, some (3, .ds (dI .i64 x))), (2, some (59, (fA a i)))]) (nx := 4) rfl rfl rfl ?_
  by_cases hx10 : (((j : Nat) : Int) < (((ka0 (kF b)) : Nat) : Int))
  ·refine kK [.b true] (((j : Int) < (ka0 (kF b) : Int))) [(1, .e (.c (.d (D.sl (kE b) m)))), (5, oV 3 0 p 1), (7, rV 2 0), (14, .e (.c (.d (D.sl (kE (kF a)) (ka0 (kF a)))))), (15, uV (ka0 (kF a))), (16, uV i), (21, .e (.c (.d (D.sl (kE (kF b)) (ka0 (kF b)))))), (22, uV (ka0 (kF b))), (23, uV j), (24, bV true)] [(2, some (59, (fA a i))), (3, some (3, .ds (dI .i64 x)))] 4 zo ?_
   refine AW.seq ?_
   refine vB ?_
   refine AW.seq ?_
   refine AW.block ?_
   obtain ⟨hx11, hx12, hx13, hx14, hx15⟩ := BsW.at (bK (qD : BsW b)) (j)
   have hx16 : ((1 : Nat) ≤ (ka0 (kL (kF b) j))) := mV zo
   refine kK [.n j, .ds [iD (kQ (kF b) j), dl (kZ (kF b) j) (kX (kF b) j), D.sl (kI (kL (kF b) j)) (ka0 (kL (kF b) j)), dl (qA (kF b) j) (k8 (kF b) j)], .no, .no] ((kN (j : Int)) ∧ (j < (ka0 (kF b))) ∧ (List.take 4 (ka3 (j * 4) (kE (kF b))) = [iD (kQ (kF b) j), dl (kZ (kF b) j) (kX (kF b) j), D.sl (kI (kL (kF b) j)) (ka0 (kL (kF b) j)), dl (qA (kF b) j) (k8 (kF b) j)]) ∧ (([iD (kQ (kF b) j), dl (kZ (kF b) j) (kX (kF b) j), D.sl (kI (kL (kF b) j)) (ka0 (kL (kF b) j)), dl (qA (kF b) j) (k8 (kF b) j)] : List D).length = 4)) [(1, .e (.c (.d (D.sl (kE b) m)))), (5, oV 3 0 p 1), (7, rV 2 0), (9, rV 4 0), (14, .e (.c (.d (D.sl (kE (kF a)) (ka0 (kF a)))))), (15, uV (ka0 (kF a))), (16, uV i), (21, .e (.c (.d (D.sl (kE (kF b)) (ka0 (kF b)))))), (22, uV (ka0 (kF b))), (23, uV j)] [(2, some (59, (fA a i))), (3, some (3, .ds (dI .i64 x))), (4, some (59, .ds [iD (kQ (kF b) j), dl (kZ (kF b) j) (kX (kF b) j), D.sl (kI (kL (kF b) j)) (ka0 (kL (kF b) j)), dl (qA (kF b) j) (k8 (kF b) j)]))] 5 ⟨rfl, zo, (yV k1l), rfl⟩ ?_
   have hx17 : (((0 : Int) ≤ (x7 (kQ (kF a) i) (kZ (kF a) i) (kX (kF a) i) (kL (kF a) i) (ka0 (kL (kF a) i)) (qA (kF a) i) (k8 (kF a) i) (kQ (kF b) j) (kZ (kF b) j) (kX (kF b) j) (kL (kF b) j) (qA (kF b) j) (k8 (kF b) j))) ∧ ((x7 (kQ (kF a) i) (kZ (kF a) i) (kX (kF a) i) (kL (kF a) i) (ka0 (kL (kF a) i)) (qA (kF a) i) (k8 (kF a) i) (kQ (kF b) j) (kZ (kF b) j) (kX (kF b) j) (kL (kF b) j) (qA (kF b) j) (k8 (kF b) j)) ≤ 15)) := k39 ..
   refine aH [.no, .no, .no, .call [] (iV (x7 (kQ (kF a) i) (kZ (kF a) i) (kX (kF a) i) (kL (kF a) i) (ka0 (kL (kF a) i)) (qA (kF a) i) (k8 (kF a) i) (kQ (kF b) j) (kZ (kF b) j) (kX (kF b) j) (kL (kF b) j) (qA (kF b) j) (k8 (kF b) j))) [] 0 [] none, .no, .ap none (p + 1) (dI .i64 (x ++ ([(x7 (kQ (kF a) i) (kZ (kF a) i) (kX (kF a) i) (kL (kF a) i) (ka0 (kL (kF a) i)) (qA (kF a) i) (k8 (kF a) i) (kQ (kF b) j) (kZ (kF b) j) (kX (kF b) j) (kL (kF b) j) (qA (kF b) j) (k8 (kF b) j))] : List Int))), .no] ((_) ∧ ([iD (x7 (kQ (kF a) i) (kZ (kF a) i) (kX (kF a) i) (kL (kF a) i) (ka0 (kL (kF a) i)) (qA (kF a) i) (k8 (kF a) i) (kQ (kF b) j) (kZ (kF b) j) (kX (kF b) j) (kL (kF b) j) (qA (kF b) j) (k8 (kF b) j))].length = 1 * 1) ∧ (((dI .i64 x) : List D).length = p * 1) ∧ ((p + 1) * 8 ≤ 140737488355328) ∧ (p + 1 = (p + 1)) ∧ (((dI .i64 x) : List D) ++ [iD (x7 (kQ (kF a) i) (kZ (kF a) i) (kX (kF a) i) (kL (kF a) i) (ka0 (kL (kF a) i)) (qA (kF a) i) (k8 (kF a) i) (kQ (kF b) j) (kZ (kF b) j) (kX (kF b) j) (kL (kF b) j) (qA (kF b) j) (k8 (kF b) j))] = (dI .i64 (x ++ ([(x7 (kQ (kF a) i) (kZ (kF a) i) (kX (kF a) i) (kL (kF a) i) (ka0 (kL (kF a) i)) (qA (kF a) i) (k8 (kF a) i) (kQ (kF b) j) (kZ (kF b) j) (kX (kF b) j) (kL (kF b) j) (qA (kF b) j) (k8 (kF b) j))] : List Int))))) [(1, .e (.c (.d (D.sl (kE b) m)))), (5, oV 6 0 (p + 1) 1), (7, rV 2 0), (14, .e (.c (.d (D.sl (kE (kF a)) (ka0 (kF a)))))), (15, uV (ka0 (kF a))), (16, uV i), (21, .e (.c (.d (D.sl (kE (kF b)) (ka0 (kF b)))))), (22, uV (ka0 (kF b))), (23, uV j)] [(2, some (59, (fA a i))), (6, some (3, .ds (dI .i64 (x ++ ([(x7 (kQ (kF a) i) (kZ (kF a) i) (kX (kF a) i) (kL (kF a) i) (ka0 (kL (kF a) i)) (qA (kF a) i) (k8 (kF a) i) (kQ (kF b) j) (kZ (kF b) j) (kX (kF b) j) (kL (kF b) j) (qA (kF b) j) (k8 (kF b) j))] : List Int)))))] 7 ⟨(v37 (kQ (kF a) i) (kZ (kF a) i) (kX (kF a) i) (kL (kF a) i) (ka0 (kL (kF a) i)) (qA (kF a) i) (k8 (kF a) i) (kQ (kF b) j) (kZ (kF b) j) (kX (kF b) j) (kL (kF b) j) (ka0 (kL (kF b) j)) (qA (kF b) j) (k8 (kF b) j) bO bO rfl bO bO bO (BsW.ms (bK (qD : BsW a)) _) bO bO rfl bO bO bO (BsW.ms (bK (qD : BsW b)) _)), dO, dO, zo, zo, (yN .i64 x ([(x7 (kQ (kF a) i) (kZ (kF a) i) (kX (kF a) i) (kL (kF a) i) (ka0 (kL (kF a) i)) (qA (kF a) i) (k8 (kF a) i) (kQ (kF b) j) (kZ (kF b) j) (kX (kF b) j) (kL (kF b) j) (qA (kF b) j) (k8 (kF b) j))] : List Int))⟩ ?_
   refine uT [.w, .no] ((-9223372036854775808) ≤ ((j : Int) + 1) ∧ ((j : Int) + 1) ≤ 9223372036854775807) [(1, .e (.c (.d (D.sl (kE b) m)))), (5, oV 6 0 (p + 1) 1), (7, rV 2 0), (14, .e (.c (.d (D.sl (kE (kF a)) (ka0 (kF a)))))), (15, uV (ka0 (kF a))), (16, uV i), (21, .e (.c (.d (D.sl (kE (kF b)) (ka0 (kF b)))))), (22, uV (ka0 (kF b))), (23, iV (↑j + 1))] ⟨by omega, by omega⟩ ?_
   exact kW ⟨(((j + 1) : Nat), ((p + 1) : Nat), ((x ++ ([(x7 (kQ (kF a) i) (kZ (kF a) i) (kX (kF a) i) (kL (kF a) i) (ka0 (kL (kF a) i)) (qA (kF a) i) (k8 (kF a) i) (kQ (kF b) j) (kZ (kF b) j) (kX (kF b) j) (kL (kF b) j) (qA (kF b) j) (k8 (kF b) j))] : List Int)) : List Int)), ⟨a5, (u9i hJ rfl), k1k, zo⟩⟩ [(3, 6)] (P := (kM (kE b)) ∧ (kJ m) ∧ (kJ 0) ∧ (kJ (p + 1)) ∧ (kJ 0) ∧ (kM (kE (kF a))) ∧ (kJ (ka0 (kF a))) ∧ (kN (ka0 (kF a) : Int)) ∧ (kN (i : Int)) ∧ (kM (kE (kF b))) ∧ (kJ (ka0 (kF b))) ∧ (kN (ka0 (kF b) : Int)) ∧ (((((j + 1) : Nat) : Int) : Int) = ((j : Int) + 1)) ∧ (kM (dI .i64 (x ++ ([(x7 (kQ (kF a) i) (kZ (kF a) i) (kX (kF a) i) (kL (kF a) i) (ka0 (kL (kF a) i)) (qA (kF a) i) (k8 (kF a) i) (kQ (kF b) j) (kZ (kF b) j) (kX (kF b) j) (kL (kF b) j) (qA (kF b) j) (k8 (kF b) j))] : List Int)))) ∧ (kM [iD (kQ (kF a) i), dl (kZ (kF a) i) (kX (kF a) i), D.sl (kI (kL (kF a) i)) (ka0 (kL (kF a) i)), dl (qA (kF a) i) (k8 (kF a) i)])) zk ⟨rfl, rfl, rfl, rfl, rfl, rfl, rfl, rfl, rfl, rfl, rfl, rfl, bN, rfl, rfl⟩ (show ka0 (kF b) - (j + 1) < ka0 (kF b) - j from eP)
  ·refine kK [.b false] (¬ ((j : Int) < (ka0 (kF b) : Int))) [(1, .e (.c (.d (D.sl (kE b) m)))), (5, oV 3 0 p 1), (7, rV 2 0), (14, .e (.c (.d (D.sl (kE (kF a)) (ka0 (kF a)))))), (15, uV (ka0 (kF a))), (16, uV i), (21, .e (.c (.d (D.sl (kE (kF b)) (ka0 (kF b)))))), (22, uV (ka0 (kF b))), (23, uV j), (24, bV false)] [(2, some (59, (fA a i))), (3, some (3, .ds (dI .i64 x)))] 4 zo ?_
   refine AW.seq ?_
   refine zf ?_
   refine AW.exit ?_
   refine aH [.w, .no] ((-9223372036854775808) ≤ ((i : Int) + 1) ∧ ((i : Int) + 1) ≤ 9223372036854775807) [(1, .e (.c (.d (D.sl (kE b) m)))), (5, oV 3 0 p 1), (14, .e (.c (.d (D.sl (kE (kF a)) (ka0 (kF a)))))), (15, uV (ka0 (kF a))), (16, iV (↑i + 1))] [(3, some (3, .ds (dI .i64 x)))] 4 ⟨by omega, by omega⟩ ?_
   exact kW ⟨(((i + 1) : Nat), (p : Nat), (x : List Int)), ⟨a5, (u9j hJ zo), (by first | assumption | omega), zo⟩⟩ [(1, 3)] (P := (kM (kE b)) ∧ (kJ m) ∧ (kJ 0) ∧ (kJ p) ∧ (kM (kE (kF a))) ∧ (kJ (ka0 (kF a))) ∧ (kN (ka0 (kF a) : Int)) ∧ (((((i + 1) : Nat) : Int) : Int) = ((i : Int) + 1)) ∧ (kM (dI .i64 x))) zk ⟨rfl, rfl, rfl, rfl, rfl, rfl, rfl, bN, rfl⟩ (show ka0 (kF a) - (i + 1) < ka0 (kF a) - i from eP)
 ·refine kK [.b false] (¬ ((i : Int) < (ka0 (kF a) : Int))) [(1, .e (.c (.d (D.sl (kE b) m)))), (5, oV 1 0 q 1), (14, .e (.c (.d (D.sl (kE (kF a)) (ka0 (kF a)))))), (15, uV (ka0 (kF a))), (16, uV i), (17, bV false)] [(1, some (3, .ds (dI .i64 o)))] 2 zo ?_
  refine AW.seq ?_
  refine zf ?_
  refine AW.exit ?_
  refine AW.seq ?_
  rcases ka9 (ctB o q 15) with hx18 | hx18
  ·refine AW.freeze 1 (l' := [(1, .e (.c (.d (D.sl (kE b) m)))), (5, sV .i64 o q), (14, .e (.c (.d (D.sl (kE (kF a)) (ka0 (kF a)))))), (15, uV (ka0 (kF a))), (16, uV i), (17, bV false)]) (g' := []) rfl (FzS.cons rfl (.same _) (FzS.cons rfl (.e (.c (@FzC.own 1 ((dI .i64 o) : List D) 0 q 1 true ((dI .i64 o) : List D) k1m dO))) (FzS.cons rfl (.same _) (FzS.cons rfl (.same _) (FzS.cons rfl (.same _) (FzS.cons rfl (.same _) FzS.nil)))))) FzG.nil ?_
   refine kK [.no, .call [] (bV true) [] 0 [] none] (Fun 74 [.c (.d (dl o q)), iE 15] (kH []) 0 (bV true) (kH []) 0) [(5, sV .i64 o q), (36, bV true)] [] 2 (by have h0 := (v1m o q 15 zo zo); rw [hx18] at h0; exact h0) ?_
   refine zt ?_
   refine kO [.no] True [(4, iV 0)] trivial ?_
   refine AW.ret ?_
   exact kA (.inr rfl) [] (P := (((qN a b) : Int) = 0)) zk (by first | exact v12 ho zo hq (by assumption) | exact v11 ho zo hq (by assumption) hy zo)
  ·refine AW.freeze 1 (l' := [(1, .e (.c (.d (D.sl (kE b) m)))), (5, sV .i64 o q), (14, .e (.c (.d (D.sl (kE (kF a)) (ka0 (kF a)))))), (15, uV (ka0 (kF a))), (16, uV i), (17, bV false)]) (g' := []) rfl (FzS.cons rfl (.same _) (FzS.cons rfl (.e (.c (@FzC.own 1 ((dI .i64 o) : List D) 0 q 1 true ((dI .i64 o) : List D) k1m dO))) (FzS.cons rfl (.same _) (FzS.cons rfl (.same _) (FzS.cons rfl (.same _) (FzS.cons rfl (.same _) FzS.nil)))))) FzG.nil ?_
   refine kK [.no, .call [] (bV false) [] 0 [] none] (Fun 74 [.c (.d (dl o q)), iE 15] (kH []) 0 (bV false) (kH []) 0) [(5, sV .i64 o q), (36, bV false)] [] 2 (by have h0 := (v1m o q 15 zo zo); rw [hx18] at h0; exact h0) ?_
   refine q9 ?_
   refine kO [.no] True [(5, sV .i64 o q), (10, iV 15)] trivial ?_
   refine AW.seq ?_
   refine kK [.no, .no] True [(5, sV .i64 o q), (10, iV 15), (11, rV 2 0)] [(2, some (3, .ds [iD 14]))] 3 trivial ?_
   refine AW.block ?_
   refine kY 0 hcx (fun (x : {x : Nat × Int // match x with | (z, y) => (z ≤ 14 ∧ 0 ≤ y ∧ y ≤ 15) ∧ (iN o q z = y)}) => match x with | ⟨(z, y), _⟩ => (⟨[(5, sV .i64 o q), (10, iV y), (11, rV 3 0)], [(3, some (3, .ds [iD (14 - (z : Int))]))], 4⟩ : ES)) (fun x => match x with | ⟨(z, y), _⟩ => 14 - z) ⟨((0 : Nat), (15 : Int)), ⟨a5, rfl⟩⟩ [(3, 2)] (P := (kM (dI .i64 o)) ∧ (kJ q) ∧ (kN 15) ∧ (kJ 0) ∧ (kM [iD 14])) zk ⟨rfl, rfl, rfl, rfl, rfl⟩ ?_
   rintro ⟨⟨z, y⟩, hinv2⟩
   obtain ⟨hz, hy⟩ : (z ≤ 14 ∧ 0 ≤ y ∧ y ≤ 15) ∧ (iN o q z = y) := hinv2
   refine qS (l := [(5, sV .i64 o q), (10, iV y), (11, rV 3 0)]) (g := [(3, some (3, .ds [iD (14 - (z : Int))]))]) (nx := 4) rfl rfl rfl ?_
   refine AW.seq ?_
   by_cases hx19 : ((0 : Int) < (14 - ((z : Nat) : Int)))
   ·refine kK [.no, .b true] (((0 : Int) < (14 - (z : Int)))) [(5, sV .i64 o q), (10, iV y), (11, rV 3 0), (38, bV true)] [(3, some (3, .ds [iD (14 - ↑z)]))] 4 zo ?_
    refine vB ?_
    refine AW.seq ?_
    refine AW.block ?_
    refine kO [.no, .no] True [(5, sV .i64 o q), (10, iV y), (11, rV 3 0), (12, .e (.c (.fn 75 [(3, 0)])))] trivial ?_
    by_cases hx20 : ((0 : Int) < ((q : Nat) : Int))
    ·rcases ka9 (zC o q (14 - ((z : Nat) : Int))) with hx21 | hx21
     ·refine kO [.no, .no, .b true, .no, .no, .no, .call [3] (bV true) [(0, some (3, .ds [iD (14 - (z : Int))]))] 1 [] none, .no, .no, .no, .no] ((((0 : Int) < (q : Int))) ∧ (Fun 76 [.c (.d (dl o q)), .c (.fn 75 [(0, 0)])] (kH [(0, some (3, .ds [iD (14 - (z : Int))]))]) 1 (bV true) (kH [(0, some (3, .ds [iD (14 - (z : Int))]))]) 1)) [(5, sV .i64 o q), (10, iV y), (11, rV 3 0), (59, bV false)] ⟨zo, (by have h0 := (u8f o q (14 - (z : Int)) zo zo); rw [hx21] at h0; exact h0)⟩ ?_
      refine q9 ?_
      refine AW.seq ?_
      refine kK [.no] True [(5, sV .i64 o q), (10, iV y), (61, iV (14 - ↑z))] [] 4 trivial ?_
      refine aH [.no, .no] True [(5, sV .i64 o q), (10, iV y), (11, rV 4 0)] [(4, some (3, .ds [iD (14 - ↑z)]))] 5 trivial ?_
      refine aH [.no, .w, .no] ((-9223372036854775808) ≤ ((14 - (z : Int)) - 1) ∧ ((14 - (z : Int)) - 1) ≤ 9223372036854775807) [(5, sV .i64 o q), (10, iV y), (11, rV 4 0)] [(4, some (3, .ds [iD ((14 - ↑z) - 1)]))] 5 ⟨by omega, by omega⟩ ?_
      exact kW ⟨(((z + 1) : Nat), (y : Int)), ⟨a5, (by first | exact u3j hy zo (by assumption) zo rfl | exact u3m hy zo | exact u3l hy (by assumption) | exact u3k hy zo)⟩⟩ [(3, 4)] (P := (kM (dI .i64 o)) ∧ (kJ q) ∧ (kN y) ∧ (kJ 0) ∧ (([iD (14 - (((z + 1) : Nat) : Int))] : List D) = [iD ((14 - (z : Int)) - 1)])) zk ⟨rfl, rfl, rfl, rfl, (by first | rfl | with_reducible assumption | (rw [show (14 - ((z + 1 : Nat) : Int)) = 14 - (z : Int) - 1 by omega]))⟩ (show 14 - (z + 1) < 14 - z from eP)
     ·by_cases hx22 : ((uY (14 - ((z : Nat) : Int))) ≤ (uY y))
      ·refine kO [.no, .no, .b true, .no, .no, .no, .call [3] (bV false) [(0, some (3, .ds [iD (14 - (z : Int))]))] 1 [] none, .no, .no, .no, .no, .w, .call [] (iV (uY (14 - (z : Int)))) [] 0 [] none, .no, .w, .call [] (iV (uY y)) [] 0 [] none, .b true, .no] ((((0 : Int) < (q : Int))) ∧ (Fun 76 [.c (.d (dl o q)), .c (.fn 75 [(0, 0)])] (kH [(0, some (3, .ds [iD (14 - (z : Int))]))]) 1 (bV false) (kH [(0, some (3, .ds [iD (14 - (z : Int))]))]) 1) ∧ (0 ≤ (14 - (z : Int)) ∧ (14 - (z : Int)) ≤ 18446744073709551615) ∧ (_) ∧ (0 ≤ y ∧ y ≤ 18446744073709551615) ∧ (_) ∧ (((uY (14 - (z : Int))) ≤ (uY y)))) [(5, sV .i64 o q), (10, iV y), (11, rV 3 0), (59, bV true)] ⟨zo, (by have h0 := (u8f o q (14 - (z : Int)) zo zo); rw [hx21] at h0; exact h0), ⟨by omega, by omega⟩, (u3u (14 - (z : Int)) zo), ⟨by omega, by omega⟩, (u3u y zo), zo⟩ ?_
       refine zt ?_
       refine uT [.no, .no] True [(5, sV .i64 o q), (10, iV (14 - ↑z)), (11, rV 3 0)] trivial ?_
       refine AW.seq ?_
       refine kK [.no] True [(5, sV .i64 o q), (10, iV (14 - ↑z)), (61, iV (14 - ↑z))] [] 4 trivial ?_
       refine aH [.no, .no] True [(5, sV .i64 o q), (10, iV (14 - ↑z)), (11, rV 4 0)] [(4, some (3, .ds [iD (14 - ↑z)]))] 5 trivial ?_
       refine aH [.no, .w, .no] ((-9223372036854775808) ≤ ((14 - (z : Int)) - 1) ∧ ((14 - (z : Int)) - 1) ≤ 9223372036854775807) [(5, sV .i64 o q), (10, iV (14 - ↑z)), (11, rV 4 0)] [(4, some (3, .ds [iD ((14 - ↑z) - 1)]))] 5 ⟨by omega, by omega⟩ ?_
       exact kW ⟨(((z + 1) : Nat), ((14 - (z : Int)) : Int)), ⟨a5, (by first | exact u3j hy zo (by assumption) zo rfl | exact u3m hy zo | exact u3l hy (by assumption) | exact u3k hy zo)⟩⟩ [(3, 4)] (P := (kM (dI .i64 o)) ∧ (kJ q) ∧ (kN (14 - (z : Int))) ∧ (kJ 0) ∧ (([iD (14 - (((z + 1) : Nat) : Int))] : List D) = [iD ((14 - (z : Int)) - 1)])) zk ⟨rfl, rfl, rfl, rfl, (by first | rfl | with_reducible assumption | (rw [show (14 - ((z + 1 : Nat) : Int)) = 14 - (z : Int) - 1 by omega]))⟩ (show 14 - (z + 1) < 14 - z from eP)
      ·refine kO [.no, .no, .b true, .no, .no, .no, .call [3] (bV false) [(0, some (3, .ds [iD (14 - (z : Int))]))] 1 [] none, .no, .no, .no, .no, .w, .call [] (iV (uY (14 - (z : Int)))) [] 0 [] none, .no, .w, .call [] (iV (uY y)) [] 0 [] none, .b false, .no] ((((0 : Int) < (q : Int))) ∧ (Fun 76 [.c (.d (dl o q)), .c (.fn 75 [(0, 0)])] (kH [(0, some (3, .ds [iD (14 - (z : Int))]))]) 1 (bV false) (kH [(0, some (3, .ds [iD (14 - (z : Int))]))]) 1) ∧ (0 ≤ (14 - (z : Int)) ∧ (14 - (z : Int)) ≤ 18446744073709551615) ∧ (_) ∧ (0 ≤ y ∧ y ≤ 18446744073709551615) ∧ (_) ∧ (¬ ((uY (14 - (z : Int))) ≤ (uY y)))) [(5, sV .i64 o q), (10, iV y), (11, rV 3 0), (59, bV false)] ⟨zo, (by have h0 := (u8f o q (14 - (z : Int)) zo zo); rw [hx21] at h0; exact h0), ⟨by omega, by omega⟩, (u3u (14 - (z : Int)) zo), ⟨by omega, by omega⟩, (u3u y zo), zo⟩ ?_
       refine q9 ?_
       refine AW.seq ?_
       refine kK [.no] True [(5, sV .i64 o q), (10, iV y), (61, iV (14 - ↑z))] [] 4 trivial ?_
       refine aH [.no, .no] True [(5, sV .i64 o q), (10, iV y), (11, rV 4 0)] [(4, some (3, .ds [iD (14 - ↑z)]))] 5 trivial ?_
       refine aH [.no, .w, .no] ((-9223372036854775808) ≤ ((14 - (z : Int)) - 1) ∧ ((14 - (z : Int)) - 1) ≤ 9223372036854775807) [(5, sV .i64 o q), (10, iV y), (11, rV 4 0)] [(4, some (3, .ds [iD ((14 - ↑z) - 1)]))] 5 ⟨by omega, by omega⟩ ?_
       exact kW ⟨(((z + 1) : Nat), (y : Int)), ⟨a5, (by first | exact u3j hy zo (by assumption) zo rfl | exact u3m hy zo | exact u3l hy (by assumption) | exact u3k hy zo)⟩⟩ [(3, 4)] (P := (kM (dI .i64 o)) ∧ (kJ q) ∧ (kN y) ∧ (kJ 0) ∧ (([iD (14 - (((z + 1) : Nat) : Int))] : List D) = [iD ((14 - (z : Int)) - 1)])) zk ⟨rfl, rfl, rfl, rfl, (by first | rfl | with_reducible assumption | (rw [show (14 - ((z + 1 : Nat) : Int)) = 14 - (z : Int) - 1 by omega]))⟩ (show 14 - (z + 1) < 14 - z from eP)
    ·refine kO (.no :: .no :: .b false :: qE 4 []) (¬ ((0 : Int) < (q : Int))) [(5, sV .i64 o q), (10, iV y), (11, rV 3 0), (59, bV false)] zo ?_
     refine q9 ?_
     refine AW.seq ?_
     refine kK [.no] True [(5, sV .i64 o q), (10, iV y), (61, iV (14 - ↑z))] [] 4 trivial ?_
     refine aH [.no, .no] True [(5, sV .i64 o q), (10, iV y), (11, rV 4 0)] [(4, some (3, .ds [iD (14 - ↑z)]))] 5 trivial ?_
     refine aH [.no, .w, .no] ((-9223372036854775808) ≤ ((14 - (z : Int)) - 1) ∧ ((14 - (z : Int)) - 1) ≤ 9223372036854775807) [(5, sV .i64 o q), (10, iV y), (11, rV 4 0)] [(4, some (3, .ds [iD ((14 - ↑z) - 1)]))] 5 ⟨by omega, by omega⟩ ?_
     exact kW ⟨(((z + 1) : Nat), (y : Int)), ⟨a5, (by first | exact u3j hy zo (by assumption) zo rfl | exact u3m hy zo | exact u3l hy (by assumption) | exact u3k hy zo)⟩⟩ [(3, 4)] (P := (kM (dI .i64 o)) ∧ (kJ q) ∧ (kN y) ∧ (kJ 0) ∧ (([iD (14 - (((z + 1) : Nat) : Int))] : List D) = [iD ((14 - (z : Int)) - 1)])) zk ⟨rfl, rfl, rfl, rfl, (by first | rfl | with_reducible assumption | (rw [show (14 - ((z + 1 : Nat) : Int)) = 14 - (z : Int) - 1 by omega]))⟩ (show 14 - (z + 1) < 14 - z from eP)
   ·refine kK [.no, .b false] (¬ ((0 : Int) < (14 - (z : Int)))) [(5, sV .i64 o q), (10, iV y), (11, rV 3 0), (38, bV false)] [(3, some (3, .ds [iD (14 - ↑z)]))] 4 zo ?_
    refine zf ?_
    refine AW.exit ?_
    refine kK [.no, .no] True [(4, iV y)] [] 4 trivial ?_
    refine AW.ret ?_
    exact kA (.inr rfl) [] (P := (((qN a b) : Int) = y)) zk (by first | exact v12 ho zo hq (by assumption) | exact v11 ho zo hq (by assumption) hy zo)
end Go.Proofs.YtcfmjpnffembpaaGreat
