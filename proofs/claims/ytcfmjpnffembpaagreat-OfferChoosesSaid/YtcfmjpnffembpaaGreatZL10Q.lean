/- What is to blame, of the code. No statement is proved here. -/
import Derived.Test.YtcfmjpnffembpaaGreatZL10N
namespace Go.Proofs.YtcfmjpnffembpaaGreat
open Go.ChangeShapes Go.WideShapes Go.ChangeAt Go.RowKit
open Bool renaming eq_false_or_eq_true → kb2
open List renaming drop → ka4, getD → ka1, length → ka0, length_append → ka6, length_cons → ka8, length_drop → kb0, length_map → kc0, length_nil → kb3, length_replicate → kb4, length_reverse → kc1, length_set → kb8, length_take → ka9
open Nat renaming le_of_ble_eq_true → ka5, mul_one → kc5
set_option linter.unusedVariables false
set_option linter.unusedSimpArgs false
/-! chapter 10: what is to blame -/
set_option maxHeartbeats 4000000
set_option maxRecDepth 100000
def qH (a b : Int) : Int := qG .and .i64 a b
def tI (k : Int) (r : List Int) (rn : Nat) (m : List (List Int)) (c : Nat) (s : List Int) (sn : Nat) (k2 : Int) (r2 : List Int) (rn2 : Nat) (m2 : List (List Int)) (s2 : List Int) (sn2 : Nat) : Int :=
 (if qH k k2 = 0 then 0 else 1) + (if uR (kB r rn) (kB r2 rn2) = 0 then 0 else 2) + (if ka0 (uP m m2 c) = 0 then 0 else 4) + (if uR (kB s sn) (kB s2 sn2) = 0 then 0 else 8)
def yN (k k2 : Int) : Int := if qH k k2 = 0 then 0 else 1
def oS (a : Int) (n : Nat) (b : Int) : Int := a + (if n = 0 then 0 else b)
theorem lU (k k2 : Int) : (qH k k2 = 0 ∧ yN k k2 = 0) ∨ (¬ qH k k2 = 0 ∧ yN k k2 = 1) := by
 unfold yN; split
 ·exact .inl ⟨by assumption, rfl⟩
 ·exact .inr ⟨by assumption, rfl⟩
theorem l7 (a : Int) (n : Nat) (b : Int) : (n = 0 ∧ oS a n b = a) ∨ (1 ≤ n ∧ oS a n b = a + b) := by
 unfold oS; split
 ·exact .inl ⟨by assumption, by omega⟩
 ·exact .inr ⟨by omega, rfl⟩
theorem u6r {a : Int} (h : 0 ≤ a ∧ a ≤ 1) : qG .or .i64 a 2 = a + 2 := by
 rcases (by omega : a = 0 ∨ a = 1) with rfl | rfl <;> decide
theorem u6q {a : Int} (h : 0 ≤ a ∧ a ≤ 3) : qG .or .i64 a 4 = a + 4 := by
 rcases (by omega : a = 0 ∨ a = 1 ∨ a = 2 ∨ a = 3) with rfl | rfl | rfl | rfl <;> decide
theorem u6p {a : Int} (h : 0 ≤ a ∧ a ≤ 7) : qG .or .i64 a 8 = a + 8 := by
 rcases (by omega : a = 0 ∨ a = 1 ∨ a = 2 ∨ a = 3 ∨ a = 4 ∨ a = 5 ∨ a = 6 ∨ a = 7) with rfl | rfl | rfl | rfl | rfl | rfl | rfl | rfl <;> decide
theorem k0r (k : Int) (r : List Int) (rn : Nat) (m : List (List Int)) (c : Nat) (s : List Int) (sn : Nat) (k2 : Int) (r2 : List Int) (rn2 : Nat) (m2 : List (List Int)) (s2 : List Int) (sn2 : Nat) : 0 ≤ tI k r rn m c s sn k2 r2 rn2 m2 s2 sn2 ∧ tI k r rn m c s sn k2 r2 rn2 m2 s2 sn2 ≤ 15 := by
 unfold tI; (repeat' split) <;> omega
def shE (xs ys : List Bx) (i j : Nat) : Int := tI (qJ xs i) (qR xs i) (qM xs i) (kY xs i) (ka0 (kY xs i)) (qS xs i) (qN xs i) (qJ ys j) (qR ys j) (qM ys j) (kY ys j) (qS ys j) (qN ys j)
def gA (xs ys : List Bx) : Nat → List Int
 | 0 => []
 | i + 1 => gA xs ys i ++ (List.range (ka0 ys)).map (shE xs ys i)
def prJ (xs ys : List Bx) (i j : Nat) : List Int := gA xs ys i ++ (List.range j).map (shE xs ys i)
theorem u4c {xs ys : List Bx} {i : Nat} {o : List Int} (h : gA xs ys i = o) : prJ xs ys i 0 = o := by
 unfold prJ; rw [h]; exact List.append_nil _
theorem u4a {xs ys : List Bx} {i j : Nat} {o : List Int} {x : Int} (h : prJ xs ys i j = o) (hx : x = shE xs ys i j) : prJ xs ys i (j + 1) = o ++ [x] := by
 subst h; subst hx
 unfold prJ; rw [List.range_succ, List.map_append, List.append_assoc]; rfl
theorem u4b {xs ys : List Bx} {i j : Nat} {o : List Int} (h : prJ xs ys i j = o) (hj : j = ka0 ys) : gA xs ys (i + 1) = o := by
 subst hj; exact h
theorem rR (xs ys : List Bx) : ∀ i, ka0 (gA xs ys i) = i * ka0 ys
 | 0 => (Nat.zero_mul _).symm
 | i + 1 => by rw [gA, ka6, rR xs ys i, kc0, List.length_range, Nat.succ_mul]
theorem k0w (xs ys : List Bx) : ∀ i, ∀ x ∈ gA xs ys i, 0 ≤ x ∧ x ≤ 15
 | 0 => fun x h => by cases h
 | i + 1 => fun x h => by
  rcases List.mem_append.1 h with h | h
  ·exact k0w xs ys i x h
  ·obtain ⟨j, _, rfl⟩ := List.mem_map.1 h
   exact k0r ..
def ctB (l : List Int) (n : Nat) (v : Int) : Bool := decide (0 ≤ qQ l v n)
def stB (d s : Int) : Bool := decide (qH d s = s)
def xQ (l : List Int) (s : Int) : Nat → Int := wU fun j => stB (ka1 l j 0) s
theorem u4q {l : List Int} {s : Int} {k : Nat} (h : xQ l s k = -1) (h2 : stB (ka1 l k 0) s = false) : xQ l s (k + 1) = -1 := i6 h h2
theorem u0h {l : List Int} {s : Int} {k : Nat} (h : xQ l s k = -1) (h2 : stB (ka1 l k 0) s = true) {n : Nat} (hn : k < n) : xQ l s n = (k : Int) := lM h h2 n hn
def tM (l : List Int) (n : Nat) (s : Int) : Bool := decide (0 ≤ xQ l s n)
def uM (x : Int) : Int := x % 2 + x / 2 % 2 + x / 4 % 2 + x / 8 % 2
def gD (l : List Int) (n : Nat) : Nat → Int
 | 0 => 15
 | i + 1 => if 1 ≤ n ∧ tM l n (14 - (i : Int)) = false ∧ uM (14 - (i : Int)) ≤ uM (gD l n i) then 14 - (i : Int) else gD l n i
theorem k24 (l : List Int) (n : Nat) : ∀ i, i ≤ 14 → 0 ≤ gD l n i ∧ gD l n i ≤ 15
 | 0, _ => ⟨(by decide : (0 : Int) ≤ 15), Int.le_refl 15⟩
 | i + 1, h => by
  have := k24 l n i (by omega)
  rw [gD]; split <;> omega
theorem k9y {l : List Int} {n i : Nat} {y x : Int} (h : gD l n i = y) (h1 : 1 ≤ n) (h2 : tM l n (14 - (i : Int)) = false) (h3 : uM (14 - (i : Int)) ≤ uM y) (hx : x = 14 - (i : Int)) : gD l n (i + 1) = x := by
 subst h; rw [hx]; exact if_pos ⟨h1, h2, h3⟩
theorem u01 {l : List Int} {n i : Nat} {y : Int} (h : gD l n i = y) (h1 : ¬ 1 ≤ n) : gD l n (i + 1) = y := by
 subst h; exact if_neg fun e => h1 e.1
theorem u00 {l : List Int} {n i : Nat} {y : Int} (h : gD l n i = y) (h2 : tM l n (14 - (i : Int)) = true) : gD l n (i + 1) = y := by
 subst h; exact if_neg fun e => by rw [h2] at e; cases e.2.1
theorem k9z {l : List Int} {n i : Nat} {y : Int} (h : gD l n i = y) (h3 : ¬ uM (14 - (i : Int)) ≤ uM y) : gD l n (i + 1) = y := by
 subst h; exact if_neg fun e => h3 e.2.2
def blP (l : List Int) : Int := if ctB l (ka0 l) 15 = true then 0 else gD l (ka0 l) 14
def eL (a b : List Bx) : Int := blP (gA (kE a) (kE b) (ka0 (kE a)))
theorem u5l {a b : List Bx} {o : List Int} {i n : Nat} (h : gA (kE a) (kE b) i = o) (hi : i = ka0 (kE a)) (hn : ka0 o = n) (hc : ctB o n 15 = true) : eL a b = 0 := by
 subst hi; subst hn
 unfold eL; rw [h]; exact if_pos hc
theorem u5k {a b : List Bx} {o : List Int} {i n : Nat} {y : Int} {z : Nat} (h : gA (kE a) (kE b) i = o) (hi : i = ka0 (kE a)) (hn : ka0 o = n) (hc : ctB o n 15 = false) (hy : gD o n z = y) (hz : z = 14) : eL a b = y := by
 subst hi; subst hn; subst hz
 unfold eL; rw [h, ← hy]; exact if_neg (by rw [hc]; decide)
theorem jB (a b : List Bx) : 0 ≤ eL a b ∧ eL a b ≤ 15 := by
 unfold eL blP; split
 ·decide
 ·exact k24 _ _ 14 (Nat.le_refl _)
theorem sX (a : List Bx) : ka0 (kE a) ≤ 64 := by
 unfold kE; split
 ·rename_i h; exact (of_decide_eq_true h).1
 ·exact Nat.zero_le _
theorem c16 {x : Int} (h : 0 ≤ x ∧ x ≤ 15) {p : Int → Prop} (h0 : ∀ n : Nat, n < 16 → p (n : Int)) : p x := by
 have := h0 x.toNat (by omega)
 rw [show ((x.toNat : Nat) : Int) = x by omega] at this; exact this
def tL (x : Int) : Int := x / 2 % 2 + 4 * (x / 8 % 2)
def tK (x : Int) : Int := x % 2 + 4 * (x / 4 % 2)
def pA (x : Int) : Int := x / 4 % 2 + x / 8 % 2
def o9 (x : Int) : Int := x % 2 + x / 2 % 2
theorem u6y {x : Int} (h : 0 ≤ x ∧ x ≤ 15) : qG .and .u64 (x / 2) 6148914691236517205 = tL x := c16 (p := fun x => qG .and .u64 (x / 2) 6148914691236517205 = tL x) h (by decide)
theorem u6x {x : Int} (h : 0 ≤ x ∧ x ≤ 15) : qG .and .u64 x 6148914691236517205 = tK x := c16 (p := fun x => qG .and .u64 x 6148914691236517205 = tK x) h (by decide)
theorem u6w {x : Int} (h : 0 ≤ x ∧ x ≤ 15) : qG .and .u64 ((tL x + tK x) / 4) 3689348814741910323 = pA x := c16 (p := fun x => qG .and .u64 ((tL x + tK x) / 4) 3689348814741910323 = pA x) h (by decide)
theorem u6v {x : Int} (h : 0 ≤ x ∧ x ≤ 15) : qG .and .u64 (tL x + tK x) 3689348814741910323 = o9 x := c16 (p := fun x => qG .and .u64 (tL x + tK x) 3689348814741910323 = o9 x) h (by decide)
theorem u6u {x y : Int} (h : 0 ≤ x ∧ x ≤ 15) (hy : y = pA x + o9 x) : qG .and .u64 y 1085102592571150095 = uM x := by
 rw [hy]; exact c16 (p := fun x => qG .and .u64 (pA x + o9 x) 1085102592571150095 = uM x) h (by decide)
theorem u6t {x y : Int} (h : 0 ≤ x ∧ x ≤ 15) (hy : y = uM x) : qG .and .i64 y 127 = uM x := by
 rw [hy]; exact c16 (p := fun x => qG .and .i64 (uM x) 127 = uM x) h (by decide)
theorem u6s {x : Int} (h : 0 ≤ x ∧ x ≤ 15) : (0 ≤ tL x ∧ tL x ≤ 5) ∧ (0 ≤ tK x ∧ tK x ≤ 5) ∧ (0 ≤ pA x ∧ pA x ≤ 2) ∧ (0 ≤ o9 x ∧ o9 x ≤ 2) ∧ 0 ≤ uM x ∧ uM x ≤ 4 := by
 unfold tL tK pA o9 uM; omega
theorem aN {p : Prop} (h : p := by first | omega | assumption | simp) : p := h
theorem x6 {p : Prop} (h : p := by first | omega | (simp only [qC, qB, ka6, ka8, kb3, ka9, kb0] <;> omega)) : p := h
theorem a9 {p : Prop} (h : p := by first | omega | with_reducible assumption | (simp only [qC, qB, ka6, ka8, kb3, ka9, kb0, kb4, kb8] <;> omega) | rfl | assumption) : p := h
theorem cZ {p : Prop} (h : p := by first | omega | (simp only [qC, qB, qX, ka6, ka8, kb3, ka9, kb0, kb4, kb8, kc0, kc1, kc5] <;> omega) | rfl) : p := h
theorem xZ {p : Prop} (h : p := by first | omega | (simp only [qC, qB, ka6, ka8, kb3] <;> omega)) : p := h
theorem a8 {p : Prop} (h : p := by first | rfl | omega | assumption | (simp; done) | (simp; omega)) : p := h
theorem dT {p : Prop} (h : p := by first | omega | (show _ < _; simp; omega)) : p := h
theorem x7 {p : Prop} (h : p := by rw [List.drop_zero, kc5, List.take_of_length_le (by first | omega | (simp only [qC, qB, qX, ka6, ka8, kb3, ka9, kb0, kb4, kb8, kc0, kc1, kc5] <;> omega))]) : p := h
theorem u5z (a b : List (List Int)) (n m : Nat) (hn : ka0 a = n) (hm : ka0 b = m) (h1 : n ≤ 1000000) (h2 : m ≤ 1000000) (hW : MsW a) (hV : MsW b) : Fun 86 [.c (.d (D.sl (kJ a) n)), .c (.d (D.sl (kJ b) m))] (kK []) 0 (kI (kJ (uP a b n)) (ka0 (uP a b n))) (kK []) 0 := by
 refine Fun.mk (n := 24) Tryz.func86 rfl rfl (ka5 rfl) ?_
 intro cx hcx
 refine kL [.no] True [(0, kI (kJ a) n), (1, kI (kJ b) m)] [] 0 trivial ?_
 refine kP [.no] True [(0, kI (kJ a) n), (1, kI (kJ b) m), (5, nV)] trivial ?_
 refine AW.seq ?_
 refine kP [.no, .no, .no] True [(1, kI (kJ b) m), (5, nV), (8, kI (kJ a) n), (9, uV n), (10, iV 0)] trivial ?_
 refine AW.block ?_
 refine AW.adoptS 5 1 23 rfl ?_
 refine kZ 0 hcx (fun (x : {x : Nat × Nat × List (List Int) // match x with | (i, q, o) => (i ≤ n ∧ q ≤ i) ∧ (uP a b i = o) ∧ (ka0 o = q) ∧ (MsW o)}) => match x with | ⟨(i, q, o), _⟩ => (⟨[(1, kI (kJ b) m), (5, oV 1 0 q 1), (8, kI (kJ a) n), (9, uV n), (10, uV i)], [(1, some (23, .ds (kJ o)))], 2⟩ : ES)) (fun x => match x with | ⟨(i, q, o), _⟩ => n - i) ⟨((0 : Nat), (0 : Nat), (([] : List (List Int)) : List (List Int))), ⟨aN, rfl, rfl, MsW.nil⟩⟩ [(1, 0)] (P := (kM (kJ b)) ∧ (kH m) ∧ (kH 0) ∧ (kH 0) ∧ (kM (kJ a)) ∧ (kH n) ∧ (kO (n : Int)) ∧ (kO 0) ∧ (((kJ ([] : List (List Int))) : List D) = ([] : List D))) zk ⟨rfl, rfl, rfl, rfl, rfl, rfl, rfl, rfl, (by first | rfl | with_reducible assumption)⟩ ?_
 rintro ⟨⟨i, q, o⟩, hinv0⟩
 obtain ⟨hi, ho, hq, hO⟩ : (i ≤ n ∧ q ≤ i) ∧ (uP a b i = o) ∧ (ka0 o = q) ∧ (MsW o) := hinv0
 refine qT (l := [(1, kI (kJ b) m), (5, oV 1 0 q 1), (8, kI (kJ a) n), (9, uV n), (10, uV i)]) (g := [(1, some (23, .ds (kJ o)))]) (nx := 2) rfl rfl rfl ?_
 by_cases hx1 : (((i : Nat) : Int) < ((n : Nat) : Int))
 ·refine kL [.b true] (((i : Int) < (n : Int))) [(1, kI (kJ b) m), (5, oV 1 0 q 1), (8, kI (kJ a) n), (9, uV n), (10, uV i), (11, bV true)] [(1, some (23, .ds (kJ o)))] 2 zo ?_
  refine AW.seq ?_
  refine vP ?_
  refine AW.seq ?_
  refine AW.block ?_
  have hx2 : ((ka0 (ka1 a i ([] : List Int))) ≤ 1000000) := MsW.at (qF : MsW a) _
  refine kP [.n i, .d (dl (ka1 a i ([] : List Int)) (ka0 (ka1 a i ([] : List Int)))), .no] ((kO (i : Int)) ∧ (i < n) ∧ ((ka4 i (kJ a))[0]? = some (dl (ka1 a i ([] : List Int)) (ka0 (ka1 a i ([] : List Int)))))) [(1, kI (kJ b) m), (5, oV 1 0 q 1), (7, sV .i64 (ka1 a i ([] : List Int)) (ka0 (ka1 a i ([] : List Int)))), (8, kI (kJ a) n), (9, uV n), (10, uV i)] ⟨rfl, zo, (aB _ _ x6)⟩ ?_
  rcases kb2 (iY b (ka1 a i ([] : List Int))) with hx3 | hx3
  ·refine kP [.no, .no, .call [] (bV true) [] 0 [] none] (Fun 96 [.c (.d (D.sl (kJ b) m)), .c (.d (dl (ka1 a i ([] : List Int)) (ka0 (ka1 a i ([] : List Int)))))] (kK []) 0 (bV true) (kK []) 0) [(1, kI (kJ b) m), (5, oV 1 0 q 1), (7, sV .i64 (ka1 a i ([] : List Int)) (ka0 (ka1 a i ([] : List Int)))), (8, kI (kJ a) n), (9, uV n), (10, uV i), (16, bV true)] (by have h0 := (oC b m (ka1 a i ([] : List Int)) (ka0 (ka1 a i ([] : List Int))) zo rfl zo a9 (qF : MsW b)); rw [hx3] at h0; exact h0) ?_
   refine zt ?_
   refine a5 [.no, .no, (.fz (.call [] (oV 0 0 (ka0 (ka1 a i ([] : List Int))) 1) [(0, some (3, .ds (dI .i64 (ka1 a i ([] : List Int)))))] 1 [] none)), .no, .ap none (q + 1) (kJ (o ++ ([(ka1 a i ([] : List Int))] : List (List Int)))), .no] ((_) ∧ (((dI .i64 (ka1 a i ([] : List Int))) : List D).length = (ka0 (ka1 a i ([] : List Int))) * 1) ∧ ([dl (ka1 a i ([] : List Int)) (ka0 (ka1 a i ([] : List Int)))].length = 1 * 1) ∧ (((kJ o) : List D).length = q * 1) ∧ ((q + 1) * 24 ≤ 140737488355328) ∧ (q + 1 = (q + 1)) ∧ (((kJ o) : List D) ++ [dl (ka1 a i ([] : List Int)) (ka0 (ka1 a i ([] : List Int)))] = (kJ (o ++ ([(ka1 a i ([] : List Int))] : List (List Int)))))) [(1, kI (kJ b) m), (5, oV 4 0 (q + 1) 1), (8, kI (kJ a) n), (9, uV n), (10, uV i)] [(4, some (23, .ds (kJ (o ++ ([(ka1 a i ([] : List Int))] : List (List Int))))))] 5 ⟨(l1 (ka1 a i ([] : List Int)) (ka0 (ka1 a i ([] : List Int))) rfl a9), cZ, cZ, cZ, zo, zo, (bX o (ka1 a i ([] : List Int)) (ka0 (ka1 a i ([] : List Int))) (by first | rfl | omega))⟩ ?_
   refine uS [.w, .no] ((-9223372036854775808) ≤ ((i : Int) + 1) ∧ ((i : Int) + 1) ≤ 9223372036854775807) [(1, kI (kJ b) m), (5, oV 4 0 (q + 1) 1), (8, kI (kJ a) n), (9, uV n), (10, iV (↑i + 1))] ⟨by omega, by omega⟩ ?_
   exact kW ⟨(((i + 1) : Nat), ((q + 1) : Nat), ((o ++ ([(ka1 a i ([] : List Int))] : List (List Int))) : List (List Int))), ⟨aN, (by first | exact k1z ho (by assumption) | exact k20 ho (by assumption)), xZ, (by first | assumption | exact MsW.snoc (by assumption) zo)⟩⟩ [(1, 4)] (P := (kM (kJ b)) ∧ (kH m) ∧ (kH 0) ∧ (kH (q + 1)) ∧ (kM (kJ a)) ∧ (kH n) ∧ (kO (n : Int)) ∧ (((((i + 1) : Nat) : Int) : Int) = ((i : Int) + 1)) ∧ (kM (kJ (o ++ ([(ka1 a i ([] : List Int))] : List (List Int)))))) zk ⟨rfl, rfl, rfl, rfl, rfl, rfl, rfl, a8, rfl⟩ (show n - (i + 1) < n - i from dT)
  ·refine kP [.no, .no, .call [] (bV false) [] 0 [] none] (Fun 96 [.c (.d (D.sl (kJ b) m)), .c (.d (dl (ka1 a i ([] : List Int)) (ka0 (ka1 a i ([] : List Int)))))] (kK []) 0 (bV false) (kK []) 0) [(1, kI (kJ b) m), (5, oV 1 0 q 1), (7, sV .i64 (ka1 a i ([] : List Int)) (ka0 (ka1 a i ([] : List Int)))), (8, kI (kJ a) n), (9, uV n), (10, uV i), (16, bV false)] (by have h0 := (oC b m (ka1 a i ([] : List Int)) (ka0 (ka1 a i ([] : List Int))) zo rfl zo a9 (qF : MsW b)); rw [hx3] at h0; exact h0) ?_
   refine uB ?_
   refine uS [.w, .no] ((-9223372036854775808) ≤ ((i : Int) + 1) ∧ ((i : Int) + 1) ≤ 9223372036854775807) [(1, kI (kJ b) m), (5, oV 1 0 q 1), (8, kI (kJ a) n), (9, uV n), (10, iV (↑i + 1))] ⟨by omega, by omega⟩ ?_
   exact kW ⟨(((i + 1) : Nat), (q : Nat), (o : List (List Int))), ⟨aN, (by first | exact k1z ho (by assumption) | exact k20 ho (by assumption)), xZ, (by first | assumption | exact MsW.snoc (by assumption) zo)⟩⟩ [] (P := (kM (kJ b)) ∧ (kH m) ∧ (kH 0) ∧ (kH q) ∧ (kM (kJ a)) ∧ (kH n) ∧ (kO (n : Int)) ∧ (((((i + 1) : Nat) : Int) : Int) = ((i : Int) + 1)) ∧ (kM (kJ o))) zk ⟨rfl, rfl, rfl, rfl, rfl, rfl, rfl, a8, rfl⟩ (show n - (i + 1) < n - i from dT)
 ·refine kL [.b false] (¬ ((i : Int) < (n : Int))) [(1, kI (kJ b) m), (5, oV 1 0 q 1), (8, kI (kJ a) n), (9, uV n), (10, uV i), (11, bV false)] [(1, some (23, .ds (kJ o)))] 2 zo ?_
  refine AW.seq ?_
  refine zf ?_
  refine AW.exit ?_
  refine kL [.no, .no] True [(4, oV 1 0 q 1)] [(1, some (23, .ds (kJ o)))] 2 trivial ?_
  refine AW.freeze 1 (l' := [(4, kI (kJ o) q)]) (g' := []) rfl (FzS.cons rfl (.e (.c (@FzC.own 1 ((kJ o) : List D) 0 q 1 true ((kJ o) : List D) x7 cZ))) FzS.nil) FzG.nil ?_
  have hz1 : uP a b n = o := by have h9 := ho; rw [show i = n by omega] at h9; exact h9
  refine AW.ret ?_
  exact kD (.inr rfl) [] (P := (((kJ (uP a b n)) : List D) = (kJ o)) ∧ (((ka0 (uP a b n)) : Nat) = q)) zk ⟨(by first | rfl | (rw [hz1]; done) | (rw [hz1]; rfl)), (by first | rfl | (rw [hz1]; omega) | omega)⟩
abbrev c9 (k : Int) (r : List Int) (rn : Nat) (m : List (List Int)) (c : Nat) (s : List Int) (sn : Nat) : BC := .ds [iD k, D.sl (dI .i64 r) rn, D.sl (kJ m) c, D.sl (dI .i64 s) sn]
abbrev c8 (k2 : Int) (r2 : List Int) (rn2 : Nat) (m2 : List (List Int)) (c2 : Nat) (s2 : List Int) (sn2 : Nat) : BC := .ds [iD k2, D.sl (dI .i64 r2) rn2, D.sl (kJ m2) c2, D.sl (dI .i64 s2) sn2]
theorem u7b (k : Int) (r : List Int) (rn : Nat) (m : List (List Int)) (c : Nat) (s : List Int) (sn : Nat) (k2 : Int) (r2 : List Int) (rn2 : Nat) (m2 : List (List Int)) (c2 : Nat) (s2 : List Int) (sn2 : Nat) (hr : ka0 r = rn * 2) (hs : ka0 s = sn * 2) (hc : ka0 m = c) (h1 : rn ≤ 1000000) (h2 : sn ≤ 1000000) (h3 : c ≤ 1000000) (hW : MsW m) (hr2 : ka0 r2 = rn2 * 2) (hs2 : ka0 s2 = sn2 * 2) (hc2 : ka0 m2 = c2) (h12 : rn2 ≤ 1000000) (h22 : sn2 ≤ 1000000) (h32 : c2 ≤ 1000000) (hW2 : MsW m2) : Fun 73 [.agg [iC k, .d (D.sl (dI .i64 r) rn), .d (D.sl (kJ m) c), .d (D.sl (dI .i64 s) sn)], .agg [iC k2, .d (D.sl (dI .i64 r2) rn2), .d (D.sl (kJ m2) c2), .d (D.sl (dI .i64 s2) sn2)]] (kK []) 0 (iV (tI k r rn m c s sn k2 r2 rn2 m2 s2 sn2)) (kK []) 0 := by
 refine Fun.mk (n := 44) Tryz.func73 rfl rfl (ka5 rfl) ?_
 intro cx hcx
 refine kL [.no, .no, .no] True [(2, rV 0 0), (3, rV 1 0)] [(0, some (59, (c9 k r rn m c s sn))), (1, some (59, (c8 k2 r2 rn2 m2 c2 s2 sn2)))] 2 trivial ?_
 refine kP [.no] True [(2, rV 0 0), (3, rV 1 0), (5, iV 0)] trivial ?_
 refine b6 hcx [(2, rV 0 0), (3, rV 1 0), (5, iV (yN k k2))] [(0, some (59, (c9 k r rn m c s sn))), (1, some (59, (c8 k2 r2 rn2 m2 c2 s2 sn2)))] 2 ?_ ?_
 ·by_cases hx2 : ((qH k k2) ≠ 0)
  ·have hx3 : (qH k k2 = 0 ∧ yN k k2 = 0) ∨ (¬ qH k k2 = 0 ∧ yN k k2 = 1) := lU _ _
   refine kL (qA 4 [.i (qH k k2), .b true]) ((qG .and .i64 k k2 = (qH k k2)) ∧ (((qH k k2) ≠ 0))) [(2, rV 0 0), (3, rV 1 0), (5, iV 0), (11, bV true)] [(0, some (59, (c9 k r rn m c s sn))), (1, some (59, (c8 k2 r2 rn2 m2 c2 s2 sn2)))] 2 ⟨rfl, zo⟩ ?_
   refine zt ?_
   refine uS [.no, .i 1, .no] (qG .or .i64 0 1 = 1) [(2, rV 0 0), (3, rV 1 0), (5, iV 1)] (by decide) ?_
   exact kW () [] (P := (kH 0) ∧ (kH 0) ∧ (((yN k k2) : Int) = 1) ∧ (kM [iD k, dl r rn, D.sl (kJ m) c, dl s sn]) ∧ (kM [iD k2, dl r2 rn2, D.sl (kJ m2) c2, dl s2 sn2])) zk ⟨rfl, rfl, a8, rfl, rfl⟩ True.intro
  ·have hx4 : (qH k k2 = 0 ∧ yN k k2 = 0) ∨ (¬ qH k k2 = 0 ∧ yN k k2 = 1) := lU _ _
   refine kL (qA 4 [.i (qH k k2), .b false]) ((qG .and .i64 k k2 = (qH k k2)) ∧ (¬ ((qH k k2) ≠ 0))) [(2, rV 0 0), (3, rV 1 0), (5, iV 0), (11, bV false)] [(0, some (59, (c9 k r rn m c s sn))), (1, some (59, (c8 k2 r2 rn2 m2 c2 s2 sn2)))] 2 ⟨rfl, zo⟩ ?_
   refine uB ?_
   exact kW () [] (P := (kH 0) ∧ (kH 0) ∧ (((yN k k2) : Int) = 0) ∧ (kM [iD k, dl r rn, D.sl (kJ m) c, dl s sn]) ∧ (kM [iD k2, dl r2 rn2, D.sl (kJ m2) c2, dl s2 sn2])) zk ⟨rfl, rfl, a8, rfl, rfl⟩ True.intro
 ·refine b6 hcx [(2, rV 0 0), (3, rV 1 0), (5, iV (oS (yN k k2) (uR (kB r rn) (kB r2 rn2)) 2))] [(0, some (59, (c9 k r rn m c s sn))), (1, some (59, (c8 k2 r2 rn2 m2 c2 s2 sn2)))] 2 ?_ ?_
  ·by_cases hx9 : ((0 : Int) < (((uR (kB r rn) (kB r2 rn2)) : Nat) : Int))
   ·have hx10 : ((uR (kB r rn) (kB r2 rn2) : Nat) = 0 ∧ oS (yN k k2) (uR (kB r rn) (kB r2 rn2)) 2 = yN k k2) ∨ (1 ≤ uR (kB r rn) (kB r2 rn2) ∧ oS (yN k k2) (uR (kB r rn) (kB r2 rn2)) 2 = yN k k2 + 2) := l7 _ _ _
    have hx11 : 0 ≤ yN k k2 ∧ yN k k2 ≤ 1 := (by have h9 := lU k k2; omega)
    have hx12 : ((ka0 (nT (kB r rn) (kB r2 rn2))) = ((uR (kB r rn) (kB r2 rn2)) * 2)) := sG _ _
    have hx13 : ((uR (kB r rn) (kB r2 rn2)) ≤ 64) := k1o _ _
    refine kL (qA 4 [.call [] (.e (.agg [.d (dl (nT (kB r rn) (kB r2 rn2)) (uR (kB r rn) (kB r2 rn2)))])) [] 0 [] none, .no, .no, .b true]) ((_) ∧ (((0 : Int) < (uR (kB r rn) (kB r2 rn2) : Int)))) [(2, rV 0 0), (3, rV 1 0), (5, iV (yN k k2)), (21, bV true)] [(0, some (59, (c9 k r rn m c s sn))), (1, some (59, (c8 k2 r2 rn2 m2 c2 s2 sn2)))] 2 ⟨(mX r r2 rn rn2 zo zo zo zo), zo⟩ ?_
    refine zt ?_
    refine uS [.no, .i ((yN k k2) + 2), .no] (qG .or .i64 (yN k k2) 2 = ((yN k k2) + 2)) [(2, rV 0 0), (3, rV 1 0), (5, iV ((yN k k2) + 2))] (u6r zo) ?_
    exact kW () [] (P := (kH 0) ∧ (kH 0) ∧ (((oS (yN k k2) (uR (kB r rn) (kB r2 rn2)) 2) : Int) = ((yN k k2) + 2)) ∧ (kM [iD k, dl r rn, D.sl (kJ m) c, dl s sn]) ∧ (kM [iD k2, dl r2 rn2, D.sl (kJ m2) c2, dl s2 sn2])) zk ⟨rfl, rfl, a8, rfl, rfl⟩ True.intro
   ·have hx14 : ((uR (kB r rn) (kB r2 rn2) : Nat) = 0 ∧ oS (yN k k2) (uR (kB r rn) (kB r2 rn2)) 2 = yN k k2) ∨ (1 ≤ uR (kB r rn) (kB r2 rn2) ∧ oS (yN k k2) (uR (kB r rn) (kB r2 rn2)) 2 = yN k k2 + 2) := l7 _ _ _
    have hx15 : 0 ≤ yN k k2 ∧ yN k k2 ≤ 1 := (by have h9 := lU k k2; omega)
    have hx16 : ((ka0 (nT (kB r rn) (kB r2 rn2))) = ((uR (kB r rn) (kB r2 rn2)) * 2)) := sG _ _
    have hx17 : ((uR (kB r rn) (kB r2 rn2)) ≤ 64) := k1o _ _
    refine kL (qA 4 [.call [] (.e (.agg [.d (dl (nT (kB r rn) (kB r2 rn2)) (uR (kB r rn) (kB r2 rn2)))])) [] 0 [] none, .no, .no, .b false]) ((_) ∧ (¬ ((0 : Int) < (uR (kB r rn) (kB r2 rn2) : Int)))) [(2, rV 0 0), (3, rV 1 0), (5, iV (yN k k2)), (21, bV false)] [(0, some (59, (c9 k r rn m c s sn))), (1, some (59, (c8 k2 r2 rn2 m2 c2 s2 sn2)))] 2 ⟨(mX r r2 rn rn2 zo zo zo zo), zo⟩ ?_
    refine uB ?_
    exact kW () [] (P := (kH 0) ∧ (kH 0) ∧ (((oS (yN k k2) (uR (kB r rn) (kB r2 rn2)) 2) : Int) = (yN k k2)) ∧ (kM [iD k, dl r rn, D.sl (kJ m) c, dl s sn]) ∧ (kM [iD k2, dl r2 rn2, D.sl (kJ m2) c2, dl s2 sn2])) zk ⟨rfl, rfl, a8, rfl, rfl⟩ True.intro
  ·refine b6 hcx [(2, rV 0 0), (3, rV 1 0), (5, iV (oS (oS (yN k k2) (uR (kB r rn) (kB r2 rn2)) 2) (ka0 (uP m m2 c)) 4))] [(0, some (59, (c9 k r rn m c s sn))), (1, some (59, (c8 k2 r2 rn2 m2 c2 s2 sn2)))] 2 ?_ ?_
   ·by_cases hx21 : ((0 : Int) < (((ka0 (uP m m2 c)) : Nat) : Int))
    ·have hx22 : ((ka0 (uP m m2 c) : Nat) = 0 ∧ oS (oS (yN k k2) (uR (kB r rn) (kB r2 rn2)) 2) (ka0 (uP m m2 c)) 4 = oS (yN k k2) (uR (kB r rn) (kB r2 rn2)) 2) ∨ (1 ≤ ka0 (uP m m2 c) ∧ oS (oS (yN k k2) (uR (kB r rn) (kB r2 rn2)) 2) (ka0 (uP m m2 c)) 4 = oS (yN k k2) (uR (kB r rn) (kB r2 rn2)) 2 + 4) := l7 _ _ _
     have hx23 : 0 ≤ oS (yN k k2) (uR (kB r rn) (kB r2 rn2)) 2 ∧ oS (yN k k2) (uR (kB r rn) (kB r2 rn2)) 2 ≤ 3 := (by have h9 := lU k k2; have h8 := l7 (yN k k2) (uR (kB r rn) (kB r2 rn2)) 2; omega)
     have hx24 : ((ka0 (uP m m2 c)) ≤ c) := k0c m m2 c
     refine kL (qA 4 [.call [] (kI (kJ (uP m m2 c)) (ka0 (uP m m2 c))) [] 0 [] none, .no, .b true]) ((_) ∧ (((0 : Int) < (ka0 (uP m m2 c) : Int)))) [(2, rV 0 0), (3, rV 1 0), (5, iV (oS (yN k k2) (uR (kB r rn) (kB r2 rn2)) 2)), (30, bV true)] [(0, some (59, (c9 k r rn m c s sn))), (1, some (59, (c8 k2 r2 rn2 m2 c2 s2 sn2)))] 2 ⟨(u5z m m2 c c2 zo zo zo zo (qF : MsW m) (qF : MsW m2)), zo⟩ ?_
     refine zt ?_
     refine uS [.no, .i ((oS (yN k k2) (uR (kB r rn) (kB r2 rn2)) 2) + 4), .no] (qG .or .i64 (oS (yN k k2) (uR (kB r rn) (kB r2 rn2)) 2) 4 = ((oS (yN k k2) (uR (kB r rn) (kB r2 rn2)) 2) + 4)) [(2, rV 0 0), (3, rV 1 0), (5, iV ((oS (yN k k2) (uR (kB r rn) (kB r2 rn2)) 2) + 4))] (u6q zo) ?_
     exact kW () [] (P := (kH 0) ∧ (kH 0) ∧ (((oS (oS (yN k k2) (uR (kB r rn) (kB r2 rn2)) 2) (ka0 (uP m m2 c)) 4) : Int) = ((oS (yN k k2) (uR (kB r rn) (kB r2 rn2)) 2) + 4)) ∧ (kM [iD k, dl r rn, D.sl (kJ m) c, dl s sn]) ∧ (kM [iD k2, dl r2 rn2, D.sl (kJ m2) c2, dl s2 sn2])) zk ⟨rfl, rfl, a8, rfl, rfl⟩ True.intro
    ·have hx25 : ((ka0 (uP m m2 c) : Nat) = 0 ∧ oS (oS (yN k k2) (uR (kB r rn) (kB r2 rn2)) 2) (ka0 (uP m m2 c)) 4 = oS (yN k k2) (uR (kB r rn) (kB r2 rn2)) 2) ∨ (1 ≤ ka0 (uP m m2 c) ∧ oS (oS (yN k k2) (uR (kB r rn) (kB r2 rn2)) 2) (ka0 (uP m m2 c)) 4 = oS (yN k k2) (uR (kB r rn) (kB r2 rn2)) 2 + 4) := l7 _ _ _
     have hx26 : 0 ≤ oS (yN k k2) (uR (kB r rn) (kB r2 rn2)) 2 ∧ oS (yN k k2) (uR (kB r rn) (kB r2 rn2)) 2 ≤ 3 := (by have h9 := lU k k2; have h8 := l7 (yN k k2) (uR (kB r rn) (kB r2 rn2)) 2; omega)
     have hx27 : ((ka0 (uP m m2 c)) ≤ c) := k0c m m2 c
     refine kL (qA 4 [.call [] (kI (kJ (uP m m2 c)) (ka0 (uP m m2 c))) [] 0 [] none, .no, .b false]) ((_) ∧ (¬ ((0 : Int) < (ka0 (uP m m2 c) : Int)))) [(2, rV 0 0), (3, rV 1 0), (5, iV (oS (yN k k2) (uR (kB r rn) (kB r2 rn2)) 2)), (30, bV false)] [(0, some (59, (c9 k r rn m c s sn))), (1, some (59, (c8 k2 r2 rn2 m2 c2 s2 sn2)))] 2 ⟨(u5z m m2 c c2 zo zo zo zo (qF : MsW m) (qF : MsW m2)), zo⟩ ?_
     refine uB ?_
     exact kW () [] (P := (kH 0) ∧ (kH 0) ∧ (((oS (oS (yN k k2) (uR (kB r rn) (kB r2 rn2)) 2) (ka0 (uP m m2 c)) 4) : Int) = (oS (yN k k2) (uR (kB r rn) (kB r2 rn2)) 2)) ∧ (kM [iD k, dl r rn, D.sl (kJ m) c, dl s sn]) ∧ (kM [iD k2, dl r2 rn2, D.sl (kJ m2) c2, dl s2 sn2])) zk ⟨rfl, rfl, a8, rfl, rfl⟩ True.intro
   ·refine b6 hcx [(5, iV (oS (oS (oS (yN k k2) (uR (kB r rn) (kB r2 rn2)) 2) (ka0 (uP m m2 c)) 4) (uR (kB s sn) (kB s2 sn2)) 8))] [] 2 ?_ ?_
    ·by_cases hx32 : ((0 : Int) < (((uR (kB s sn) (kB s2 sn2)) : Nat) : Int))
     ·have hx33 : ((uR (kB s sn) (kB s2 sn2) : Nat) = 0 ∧ oS (oS (oS (yN k k2) (uR (kB r rn) (kB r2 rn2)) 2) (ka0 (uP m m2 c)) 4) (uR (kB s sn) (kB s2 sn2)) 8 = oS (oS (yN k k2) (uR (kB r rn) (kB r2 rn2)) 2) (ka0 (uP m m2 c)) 4) ∨ (1 ≤ uR (kB s sn) (kB s2 sn2) ∧ oS (oS (oS (yN k k2) (uR (kB r rn) (kB r2 rn2)) 2) (ka0 (uP m m2 c)) 4) (uR (kB s sn) (kB s2 sn2)) 8 = oS (oS (yN k k2) (uR (kB r rn) (kB r2 rn2)) 2) (ka0 (uP m m2 c)) 4 + 8) := l7 _ _ _
      have hx34 : 0 ≤ oS (oS (yN k k2) (uR (kB r rn) (kB r2 rn2)) 2) (ka0 (uP m m2 c)) 4 ∧ oS (oS (yN k k2) (uR (kB r rn) (kB r2 rn2)) 2) (ka0 (uP m m2 c)) 4 ≤ 7 := (by have h9 := lU k k2; have h8 := l7 (yN k k2) (uR (kB r rn) (kB r2 rn2)) 2; have h7 := l7 (oS (yN k k2) (uR (kB r rn) (kB r2 rn2)) 2) (ka0 (uP m m2 c)) 4; omega)
      have hx35 : ((ka0 (nT (kB s sn) (kB s2 sn2))) = ((uR (kB s sn) (kB s2 sn2)) * 2)) := sG _ _
      have hx36 : ((uR (kB s sn) (kB s2 sn2)) ≤ 64) := k1o _ _
      refine kL (qA 4 [.call [] (.e (.agg [.d (dl (nT (kB s sn) (kB s2 sn2)) (uR (kB s sn) (kB s2 sn2)))])) [] 0 [] none, .no, .no, .b true]) ((_) ∧ (((0 : Int) < (uR (kB s sn) (kB s2 sn2) : Int)))) [(5, iV (oS (oS (yN k k2) (uR (kB r rn) (kB r2 rn2)) 2) (ka0 (uP m m2 c)) 4)), (40, bV true)] [] 2 ⟨(mX s s2 sn sn2 zo zo zo zo), zo⟩ ?_
      refine zt ?_
      refine uS [.no, .i ((oS (oS (yN k k2) (uR (kB r rn) (kB r2 rn2)) 2) (ka0 (uP m m2 c)) 4) + 8), .no] (qG .or .i64 (oS (oS (yN k k2) (uR (kB r rn) (kB r2 rn2)) 2) (ka0 (uP m m2 c)) 4) 8 = ((oS (oS (yN k k2) (uR (kB r rn) (kB r2 rn2)) 2) (ka0 (uP m m2 c)) 4) + 8)) [(5, iV ((oS (oS (yN k k2) (uR (kB r rn) (kB r2 rn2)) 2) (ka0 (uP m m2 c)) 4) + 8))] (u6p zo) ?_
      exact kW () [] (P := (((oS (oS (oS (yN k k2) (uR (kB r rn) (kB r2 rn2)) 2) (ka0 (uP m m2 c)) 4) (uR (kB s sn) (kB s2 sn2)) 8) : Int) = ((oS (oS (yN k k2) (uR (kB r rn) (kB r2 rn2)) 2) (ka0 (uP m m2 c)) 4) + 8))) zk a8 True.intro
     ·have hx37 : ((uR (kB s sn) (kB s2 sn2) : Nat) = 0 ∧ oS (oS (oS (yN k k2) (uR (kB r rn) (kB r2 rn2)) 2) (ka0 (uP m m2 c)) 4) (uR (kB s sn) (kB s2 sn2)) 8 = oS (oS (yN k k2) (uR (kB r rn) (kB r2 rn2)) 2) (ka0 (uP m m2 c)) 4) ∨ (1 ≤ uR (kB s sn) (kB s2 sn2) ∧ oS (oS (oS (yN k k2) (uR (kB r rn) (kB r2 rn2)) 2) (ka0 (uP m m2 c)) 4) (uR (kB s sn) (kB s2 sn2)) 8 = oS (oS (yN k k2) (uR (kB r rn) (kB r2 rn2)) 2) (ka0 (uP m m2 c)) 4 + 8) := l7 _ _ _
      have hx38 : 0 ≤ oS (oS (yN k k2) (uR (kB r rn) (kB r2 rn2)) 2) (ka0 (uP m m2 c)) 4 ∧ oS (oS (yN k k2) (uR (kB r rn) (kB r2 rn2)) 2) (ka0 (uP m m2 c)) 4 ≤ 7 := (by have h9 := lU k k2; have h8 := l7 (yN k k2) (uR (kB r rn) (kB r2 rn2)) 2; have h7 := l7 (oS (yN k k2) (uR (kB r rn) (kB r2 rn2)) 2) (ka0 (uP m m2 c)) 4; omega)
      have hx39 : ((ka0 (nT (kB s sn) (kB s2 sn2))) = ((uR (kB s sn) (kB s2 sn2)) * 2)) := sG _ _
      have hx40 : ((uR (kB s sn) (kB s2 sn2)) ≤ 64) := k1o _ _
      refine kL (qA 4 [.call [] (.e (.agg [.d (dl (nT (kB s sn) (kB s2 sn2)) (uR (kB s sn) (kB s2 sn2)))])) [] 0 [] none, .no, .no, .b false]) ((_) ∧ (¬ ((0 : Int) < (uR (kB s sn) (kB s2 sn2) : Int)))) [(5, iV (oS (oS (yN k k2) (uR (kB r rn) (kB r2 rn2)) 2) (ka0 (uP m m2 c)) 4)), (40, bV false)] [] 2 ⟨(mX s s2 sn sn2 zo zo zo zo), zo⟩ ?_
      refine uB ?_
      exact kW () [] (P := (((oS (oS (oS (yN k k2) (uR (kB r rn) (kB r2 rn2)) 2) (ka0 (uP m m2 c)) 4) (uR (kB s sn) (kB s2 sn2)) 8) : Int) = (oS (oS (yN k k2) (uR (kB r rn) (kB r2 rn2)) 2) (ka0 (uP m m2 c)) 4))) zk a8 True.intro
    ·refine kL [.no, .no] True [(4, iV (oS (oS (oS (yN k k2) (uR (kB r rn) (kB r2 rn2)) 2) (ka0 (uP m m2 c)) 4) (uR (kB s sn) (kB s2 sn2)) 8))] [] 2 trivial ?_
     refine AW.ret ?_
     exact kD (.inr rfl) [] (P := (((tI k r rn m c s sn k2 r2 rn2 m2 s2 sn2) : Int) = (oS (oS (oS (yN k k2) (uR (kB r rn) (kB r2 rn2)) 2) (ka0 (uP m m2 c)) 4) (uR (kB s sn) (kB s2 sn2)) 8))) zk (by first | rfl | omega)
theorem jR {p : Prop} (h : p := by first | exact decide_eq_true (by omega) | exact decide_eq_false (by omega)) : p := h
theorem u5y (l : List Int) (n : Nat) (v : Int) (hn : ka0 l = n) (h1 : n ≤ 1000000) : Fun 74 [.c (.d (D.sl (dI .i64 l) n)), iE v] (kK []) 0 (qY (D.lit (.bool (ctB l n v)))) (kK []) 0 := by
 refine Fun.mk (n := 9) Tryz.func74 rfl rfl (ka5 rfl) ?_
 intro cx hcx
 refine kL [.no] True [(0, sV .i64 l n), (1, iV v)] [] 0 trivial ?_
 by_cases hx2 : ((0 : Int) ≤ (qQ l v n))
 ·have hx3 : ((((-1) : Int) ≤ (qQ l v n)) ∧ ((qQ l v n) < ((n : Nat) : Int))) := vC l v n
  refine kP [.no, .no, .call [] (iV (qQ l v n)) [] 0 [] none, .b true, .no] ((_) ∧ (((0 : Int) ≤ (qQ l v n)))) [(4, bV true)] ⟨(n6 l n v zo zo), zo⟩ ?_
  refine AW.ret ?_
  exact kD (.inr rfl) [] (P := ((ctB l n v) = true)) zk jR
 ·have hx4 : ((((-1) : Int) ≤ (qQ l v n)) ∧ ((qQ l v n) < ((n : Nat) : Int))) := vC l v n
  refine kP [.no, .no, .call [] (iV (qQ l v n)) [] 0 [] none, .b false, .no] ((_) ∧ (¬ ((0 : Int) ≤ (qQ l v n)))) [(4, bV false)] ⟨(n6 l n v zo zo), zo⟩ ?_
  refine AW.ret ?_
  exact kD (.inr rfl) [] (P := ((ctB l n v) = false)) zk jR
theorem u1d (d s : Int)  : Fun 75 [iE d, .c (.ptr 0 0)] (kK [(0, some (3, .ds [iD s]))]) 1 (qY (D.lit (.bool (stB d s)))) (kK [(0, some (3, .ds [iD s]))]) 1 := by
 refine Fun.mk (n := 9) Tryz.func75 rfl rfl (ka5 rfl) ?_
 intro cx hcx
 refine kL [.no] True [(0, iV d), (1, rV 0 0)] [(0, some (3, .ds [iD s]))] 1 trivial ?_
 by_cases hx1 : ((qH d s) = s)
 ·refine kP [.no, .no, .i (qH d s), .no, .b true, .no] ((qG .and .i64 d s = (qH d s)) ∧ (((qH d s) = s))) [(3, bV true)] ⟨rfl, zo⟩ ?_
  refine AW.ret ?_
  exact kD (.inr rfl) [] (P := ((stB d s) = true) ∧ (kM [iD s])) zk ⟨jR, rfl⟩
 ·refine kP [.no, .no, .i (qH d s), .no, .b false, .no] ((qG .and .i64 d s = (qH d s)) ∧ (¬ ((qH d s) = s))) [(3, bV false)] ⟨rfl, zo⟩ ?_
  refine AW.ret ?_
  exact kD (.inr rfl) [] (P := ((stB d s) = false) ∧ (kM [iD s])) zk ⟨jR, rfl⟩
theorem u1c (l : List Int) (n : Nat) (s : Int) (hn : ka0 l = n) (h1 : n ≤ 1000000) : Fun 119 [.c (.d (D.sl (dI .i64 l) n)), .c (.fn 75 [(0, 0)])] (kK [(0, some (3, .ds [iD s]))]) 1 (iV (xQ l s n)) (kK [(0, some (3, .ds [iD s]))]) 1 := by
 refine Fun.mk (n := 19) Tryz.func119 rfl rfl (ka5 rfl) ?_
 intro cx hcx
 refine kL [.no] True [(0, sV .i64 l n), (1, .e (.c (.fn 75 [(0, 0)])))] [(0, some (3, .ds [iD s]))] 1 trivial ?_
 refine AW.seq ?_
 refine kP [.no, .no, .no] True [(0, sV .i64 l n), (1, .e (.c (.fn 75 [(0, 0)]))), (7, uV n), (8, iV 0)] trivial ?_
 refine AW.block ?_
 refine kZ 1 hcx (fun (x : {x : Nat // match x with | k => (k ≤ n) ∧ (xQ l s k = -1)}) => match x with | ⟨k, _⟩ => (⟨[(0, sV .i64 l n), (1, .e (.c (.fn 75 [(0, 0)]))), (7, uV n), (8, uV k)], [(0, some (3, .ds [iD s]))], 1⟩ : ES)) (fun x => match x with | ⟨k, _⟩ => n - k) ⟨(0 : Nat), ⟨aN, rfl⟩⟩ [] (P := (kM (dI .i64 l)) ∧ (kH n) ∧ (kO (n : Int)) ∧ (kO 0) ∧ (kM [iD s])) zk ⟨rfl, rfl, rfl, rfl, rfl⟩ ?_
 rintro ⟨k, hinv0⟩
 obtain ⟨hk, hi⟩ : (k ≤ n) ∧ (xQ l s k = -1) := hinv0
 refine qT (l := [(0, sV .i64 l n), (1, .e (.c (.fn 75 [(0, 0)]))), (7, uV n), (8, uV k)]) (g := [(0, some (3, .ds [iD s]))]) (nx := 1) rfl rfl rfl ?_
 by_cases hx1 : (((k : Nat) : Int) < ((n : Nat) : Int))
 ·refine kL [.b true] (((k : Int) < (n : Int))) [(0, sV .i64 l n), (1, .e (.c (.fn 75 [(0, 0)]))), (7, uV n), (8, uV k), (9, bV true)] [(0, some (3, .ds [iD s]))] 1 zo ?_
  refine AW.seq ?_
  refine vP ?_
  refine AW.seq ?_
  refine AW.block ?_
  refine kP [.no, .no] True [(0, sV .i64 l n), (1, .e (.c (.fn 75 [(0, 0)]))), (5, uV k), (7, uV n), (8, uV k)] trivial ?_
  rcases kb2 (stB (ka1 l k 0) s) with hx2 | hx2
  ·refine kP [.no, .no, .no, .n k, .d (D.lit (.int .i64 (ka1 l k 0))), .call [0] (bV true) [(0, some (3, .ds [iD s]))] 1 [] none] ((kO (k : Int)) ∧ (k < n) ∧ ((ka4 k (dI .i64 l))[0]? = some (D.lit (.int .i64 (ka1 l k 0)))) ∧ (Fun 75 [iE (ka1 l k 0), .c (.ptr 0 0)] (kK [(0, some (3, .ds [iD s]))]) 1 (bV true) (kK [(0, some (3, .ds [iD s]))]) 1)) [(0, sV .i64 l n), (1, .e (.c (.fn 75 [(0, 0)]))), (5, uV k), (7, uV n), (8, uV k), (16, bV true)] ⟨rfl, zo, (q5 _ _ _ cZ), (by have h0 := (u1d (ka1 l k 0) s); rw [hx2] at h0; exact h0)⟩ ?_
   refine zt ?_
   refine kP [.no, .no] True [(4, uV k)] trivial ?_
   refine AW.ret ?_
   exact kD (.inr rfl) [] (P := (((xQ l s n) : Int) = (k : Int)) ∧ (kM [iD s])) zk ⟨(by first | rfl | exact u0h hi (by assumption) zo | (rw [show n = k by omega]; exact hi) | omega), rfl⟩
  ·refine kP [.no, .no, .no, .n k, .d (D.lit (.int .i64 (ka1 l k 0))), .call [0] (bV false) [(0, some (3, .ds [iD s]))] 1 [] none] ((kO (k : Int)) ∧ (k < n) ∧ ((ka4 k (dI .i64 l))[0]? = some (D.lit (.int .i64 (ka1 l k 0)))) ∧ (Fun 75 [iE (ka1 l k 0), .c (.ptr 0 0)] (kK [(0, some (3, .ds [iD s]))]) 1 (bV false) (kK [(0, some (3, .ds [iD s]))]) 1)) [(0, sV .i64 l n), (1, .e (.c (.fn 75 [(0, 0)]))), (5, uV k), (7, uV n), (8, uV k), (16, bV false)] ⟨rfl, zo, (q5 _ _ _ cZ), (by have h0 := (u1d (ka1 l k 0) s); rw [hx2] at h0; exact h0)⟩ ?_
   refine uB ?_
   refine uS [.w, .no] ((-9223372036854775808) ≤ ((k : Int) + 1) ∧ ((k : Int) + 1) ≤ 9223372036854775807) [(0, sV .i64 l n), (1, .e (.c (.fn 75 [(0, 0)]))), (7, uV n), (8, iV (↑k + 1))] ⟨by omega, by omega⟩ ?_
   exact kW ⟨((k + 1) : Nat), ⟨aN, (u4q hi (by assumption))⟩⟩ [] (P := (kM (dI .i64 l)) ∧ (kH n) ∧ (kO (n : Int)) ∧ (((((k + 1) : Nat) : Int) : Int) = ((k : Int) + 1)) ∧ (kM [iD s])) zk ⟨rfl, rfl, rfl, a8, rfl⟩ (show n - (k + 1) < n - k from dT)
 ·refine kL [.b false] (¬ ((k : Int) < (n : Int))) [(0, sV .i64 l n), (1, .e (.c (.fn 75 [(0, 0)]))), (7, uV n), (8, uV k), (9, bV false)] [(0, some (3, .ds [iD s]))] 1 zo ?_
  refine AW.seq ?_
  refine zf ?_
  refine AW.exit ?_
  refine kL [.no] True [(4, iV (-1))] [(0, some (3, .ds [iD s]))] 1 trivial ?_
  refine AW.ret ?_
  exact kD (.inr rfl) [] (P := (((xQ l s n) : Int) = (-1)) ∧ (kM [iD s])) zk ⟨(by first | rfl | exact u0h hi (by assumption) zo | (rw [show n = k by omega]; exact hi) | omega), rfl⟩
theorem u3l (l : List Int) (n : Nat) (s : Int) (hn : ka0 l = n) (h1 : n ≤ 1000000) : Fun 76 [.c (.d (D.sl (dI .i64 l) n)), .c (.fn 75 [(0, 0)])] (kK [(0, some (3, .ds [iD s]))]) 1 (qY (D.lit (.bool (tM l n s)))) (kK [(0, some (3, .ds [iD s]))]) 1 := by
 refine Fun.mk (n := 9) Tryz.func76 rfl rfl (ka5 rfl) ?_
 intro cx hcx
 refine kL [.no] True [(0, sV .i64 l n), (1, .e (.c (.fn 75 [(0, 0)])))] [(0, some (3, .ds [iD s]))] 1 trivial ?_
 by_cases hx1 : ((0 : Int) ≤ (xQ l s n))
 ·refine kP [.no, .no, .call [0] (iV (xQ l s n)) [(0, some (3, .ds [iD s]))] 1 [] none, .b true, .no] ((_) ∧ (((0 : Int) ≤ (xQ l s n)))) [(4, bV true)] ⟨(u1c l n s zo zo), zo⟩ ?_
  refine AW.ret ?_
  exact kD (.inr rfl) [] (P := ((tM l n s) = true) ∧ (kM [iD s])) zk ⟨jR, rfl⟩
 ·refine kP [.no, .no, .call [0] (iV (xQ l s n)) [(0, some (3, .ds [iD s]))] 1 [] none, .b false, .no] ((_) ∧ (¬ ((0 : Int) ≤ (xQ l s n)))) [(4, bV false)] ⟨(u1c l n s zo zo), zo⟩ ?_
  refine AW.ret ?_
  exact kD (.inr rfl) [] (P := ((tM l n s) = false) ∧ (kM [iD s])) zk ⟨jR, rfl⟩
theorem u3k (x : Int) (h1 : 0 ≤ x ∧ x ≤ 15) : Fun 121 [.c (.d (D.lit (.int .u64 x)))] (kK []) 0 (iV (uM x)) (kK []) 0 := by
 have hxr : (0 ≤ tL x ∧ tL x ≤ 5) ∧ (0 ≤ tK x ∧ tK x ≤ 5) ∧ (0 ≤ pA x ∧ pA x ≤ 2) ∧ (0 ≤ o9 x ∧ o9 x ≤ 2) ∧ 0 ≤ uM x ∧ uM x ≤ 4 := u6s h1
 refine Fun.mk (n := 35) Tryz.func121 rfl rfl (ka5 rfl) ?_
 intro cx hcx
 refine kL [.no] True [(0, qY (D.lit (.int .u64 x)))] [] 0 trivial ?_
 refine kP [.no, .n 1, .i (tL x), .no, .i (tK x), .w, .no] ((kO 1) ∧ ((1 : Nat) ≤ 64) ∧ (qG .and .u64 (x / 2) 6148914691236517205 = (tL x)) ∧ (qG .and .u64 x 6148914691236517205 = (tK x)) ∧ (0 ≤ ((tL x) + (tK x)) ∧ ((tL x) + (tK x)) ≤ 18446744073709551615)) [(0, qY (D.lit (.int .u64 ((tL x) + (tK x)))))] ⟨rfl, zo, (u6y h1), (u6x h1), ⟨by omega, by omega⟩⟩ ?_
 refine kP [.no, .n 2, .i (pA x), .no, .i (o9 x), .w, .no] ((kO 2) ∧ ((2 : Nat) ≤ 64) ∧ (qG .and .u64 (((tL x) + (tK x)) / 4) 3689348814741910323 = (pA x)) ∧ (qG .and .u64 ((tL x) + (tK x)) 3689348814741910323 = (o9 x)) ∧ (0 ≤ ((pA x) + (o9 x)) ∧ ((pA x) + (o9 x)) ≤ 18446744073709551615)) [(0, qY (D.lit (.int .u64 ((pA x) + (o9 x)))))] ⟨rfl, zo, (u6w h1), (u6v h1), ⟨by omega, by omega⟩⟩ ?_
 refine kP [.no, .n 4, .no, .w, .i (uM x), .no] ((kO 4) ∧ ((4 : Nat) ≤ 64) ∧ (0 ≤ ((((pA x) + (o9 x)) / 16) + ((pA x) + (o9 x))) ∧ ((((pA x) + (o9 x)) / 16) + ((pA x) + (o9 x))) ≤ 18446744073709551615) ∧ (qG .and .u64 ((((pA x) + (o9 x)) / 16) + ((pA x) + (o9 x))) 1085102592571150095 = (uM x))) [(0, qY (D.lit (.int .u64 (uM x))))] ⟨rfl, zo, ⟨by omega, by omega⟩, (u6u h1 zo)⟩ ?_
 refine kP [.no, .no, .n 8, .w, .no] ((kO 8) ∧ ((8 : Nat) ≤ 64) ∧ (0 ≤ ((uM x) + ((uM x) / 256)) ∧ ((uM x) + ((uM x) / 256)) ≤ 18446744073709551615)) [(0, qY (D.lit (.int .u64 ((uM x) + ((uM x) / 256)))))] ⟨rfl, zo, ⟨by omega, by omega⟩⟩ ?_
 refine kP [.no, .no, .n 16, .w, .no] ((kO 16) ∧ ((16 : Nat) ≤ 64) ∧ (0 ≤ (((uM x) + ((uM x) / 256)) + (((uM x) + ((uM x) / 256)) / 65536)) ∧ (((uM x) + ((uM x) / 256)) + (((uM x) + ((uM x) / 256)) / 65536)) ≤ 18446744073709551615)) [(0, qY (D.lit (.int .u64 (((uM x) + ((uM x) / 256)) + (((uM x) + ((uM x) / 256)) / 65536)))))] ⟨rfl, zo, ⟨by omega, by omega⟩⟩ ?_
 refine kP [.no, .no, .n 32, .w, .no] ((kO 32) ∧ ((32 : Nat) ≤ 64) ∧ (0 ≤ ((((uM x) + ((uM x) / 256)) + (((uM x) + ((uM x) / 256)) / 65536)) + ((((uM x) + ((uM x) / 256)) + (((uM x) + ((uM x) / 256)) / 65536)) / 4294967296)) ∧ ((((uM x) + ((uM x) / 256)) + (((uM x) + ((uM x) / 256)) / 65536)) + ((((uM x) + ((uM x) / 256)) + (((uM x) + ((uM x) / 256)) / 65536)) / 4294967296)) ≤ 18446744073709551615)) [(0, qY (D.lit (.int .u64 ((((uM x) + ((uM x) / 256)) + (((uM x) + ((uM x) / 256)) / 65536)) + ((((uM x) + ((uM x) / 256)) + (((uM x) + ((uM x) / 256)) / 65536)) / 4294967296)))))] ⟨rfl, zo, ⟨by omega, by omega⟩⟩ ?_
 refine kP [.no, .w, .i (uM x), .no] (((-9223372036854775808) ≤ ((((uM x) + ((uM x) / 256)) + (((uM x) + ((uM x) / 256)) / 65536)) + ((((uM x) + ((uM x) / 256)) + (((uM x) + ((uM x) / 256)) / 65536)) / 4294967296)) ∧ ((((uM x) + ((uM x) / 256)) + (((uM x) + ((uM x) / 256)) / 65536)) + ((((uM x) + ((uM x) / 256)) + (((uM x) + ((uM x) / 256)) / 65536)) / 4294967296)) ≤ 9223372036854775807) ∧ (qG .and .i64 ((((uM x) + ((uM x) / 256)) + (((uM x) + ((uM x) / 256)) / 65536)) + ((((uM x) + ((uM x) / 256)) + (((uM x) + ((uM x) / 256)) / 65536)) / 4294967296)) 127 = (uM x))) [(2, iV (uM x))] ⟨⟨by omega, by omega⟩, (u6t h1 zo)⟩ ?_
 refine AW.ret ?_
 exact kD (.inr rfl) [] (P := (kO (uM x))) zk rfl
theorem u07 (x : Int) (h1 : 0 ≤ x ∧ x ≤ 15) : Fun 77 [.c (.d (D.lit (.int .u64 x)))] (kK []) 0 (iV (uM x)) (kK []) 0 := by
 refine Fun.mk (n := 8) Tryz.func77 rfl rfl (ka5 rfl) ?_
 intro cx hcx
 refine kL [.no] True [(0, qY (D.lit (.int .u64 x)))] [] 0 trivial ?_
 refine AW.seq ?_
 refine lT (.lit rfl) ?_
 refine AW.skip ?_
 refine kP [.no, .call [] (iV (uM x)) [] 0 [] none, .no] _ [(2, iV (uM x))] (u3k x zo) ?_
 refine AW.ret ?_
 exact kD (.inr rfl) [] (P := (kO (uM x))) zk rfl
abbrev d5 (a : List Bx) (i : Nat) : BC := .ds [iD (qJ (kE a) i), D.sl (dI .i64 (qR (kE a) i)) (qM (kE a) i), D.sl (kJ (kY (kE a) i)) (ka0 (kY (kE a) i)), D.sl (dI .i64 (qS (kE a) i)) (qN (kE a) i)]
theorem jJ (a b : List Bx) (n m : Nat) (hn : ka0 a = n) (hm : ka0 b = m) (h1 : n ≤ 1000) (h2 : m ≤ 1000) (hW : BsW a) (hV : BsW b) : Fun 31 [.c (.d (D.sl (kF a) n)), .c (.d (D.sl (kF b) m))] (kK []) 0 (iV (eL a b)) (kK []) 0 := by
 have hL1 : ka0 (kE a) ≤ 64 ∧ ka0 (kE b) ≤ 64 := ⟨sX a, sX b⟩
 refine Fun.mk (n := 63) Tryz.func31 rfl rfl (ka5 rfl) ?_
 intro cx hcx
 refine kL [.no] True [(0, kI (kF a) n), (1, kI (kF b) m)] [] 0 trivial ?_
 refine kP [.no] True [(0, kI (kF a) n), (1, kI (kF b) m), (5, nV)] trivial ?_
 refine AW.seq ?_
 have hx1 : ((ka0 (kE a)) ≤ n) := (by have h9 := eG a; omega)
 refine kP [.no, .call [] (kI (kF (kE a)) (ka0 (kE a))) [] 0 [] none, .no, .no] _ [(1, kI (kF b) m), (5, nV), (14, kI (kF (kE a)) (ka0 (kE a))), (15, uV (ka0 (kE a))), (16, iV 0)] (jL a n zo zo (qF : BsW a)) ?_
 refine AW.block ?_
 refine AW.adoptS 5 1 3 rfl ?_
 refine kZ 0 hcx (fun (x : {x : Nat × Nat × List Int // match x with | (i, q, o) => (i ≤ ka0 (kE a)) ∧ (gA (kE a) (kE b) i = o) ∧ (ka0 o = q) ∧ (q ≤ i * 64)}) => match x with | ⟨(i, q, o), _⟩ => (⟨[(1, kI (kF b) m), (5, oV 1 0 q 1), (14, kI (kF (kE a)) (ka0 (kE a))), (15, uV (ka0 (kE a))), (16, uV i)], [(1, some (3, .ds (dI .i64 o)))], 2⟩ : ES)) (fun x => match x with | ⟨(i, q, o), _⟩ => ka0 (kE a) - i) ⟨((0 : Nat), (0 : Nat), (([] : List Int) : List Int)), ⟨aN, rfl, rfl, zo⟩⟩ [(1, 0)] (P := (kM (kF b)) ∧ (kH m) ∧ (kH 0) ∧ (kH 0) ∧ (kM (kF (kE a))) ∧ (kH (ka0 (kE a))) ∧ (kO (ka0 (kE a) : Int)) ∧ (kO 0) ∧ (((dI .i64 ([] : List Int)) : List D) = ([] : List D))) zk ⟨rfl, rfl, rfl, rfl, rfl, rfl, rfl, rfl, (by first | rfl | with_reducible assumption)⟩ ?_
 rintro ⟨⟨i, q, o⟩, hinv0⟩
 obtain ⟨hi, ho, hq, hqm⟩ : (i ≤ ka0 (kE a)) ∧ (gA (kE a) (kE b) i = o) ∧ (ka0 o = q) ∧ (q ≤ i * 64) := hinv0
 refine qT (l := [(1, kI (kF b) m), (5, oV 1 0 q 1), (14, kI (kF (kE a)) (ka0 (kE a))), (15, uV (ka0 (kE a))), (16, uV i)]) (g := [(1, some (3, .ds (dI .i64 o)))]) (nx := 2) rfl rfl rfl ?_
 by_cases hx2 : (((i : Nat) : Int) < (((ka0 (kE a)) : Nat) : Int))
 ·refine kL [.b true] (((i : Int) < (ka0 (kE a) : Int))) [(1, kI (kF b) m), (5, oV 1 0 q 1), (14, kI (kF (kE a)) (ka0 (kE a))), (15, uV (ka0 (kE a))), (16, uV i), (17, bV true)] [(1, some (3, .ds (dI .i64 o)))] 2 zo ?_
  refine AW.seq ?_
  refine vP ?_
  refine AW.seq ?_
  refine AW.block ?_
  obtain ⟨hx3, hx4, hx5, hx6, hx7⟩ := BsW.at (aK (qF : BsW a)) (i)
  have hx8 : ((1 : Nat) ≤ (ka0 (kY (kE a) i))) := lP zo
  refine kL [.n i, .ds [iD (qJ (kE a) i), dl (qR (kE a) i) (qM (kE a) i), D.sl (kJ (kY (kE a) i)) (ka0 (kY (kE a) i)), dl (qS (kE a) i) (qN (kE a) i)], .no, .no] ((kO (i : Int)) ∧ (i < (ka0 (kE a))) ∧ (List.take 4 (ka4 (i * 4) (kF (kE a))) = [iD (qJ (kE a) i), dl (qR (kE a) i) (qM (kE a) i), D.sl (kJ (kY (kE a) i)) (ka0 (kY (kE a) i)), dl (qS (kE a) i) (qN (kE a) i)]) ∧ (([iD (qJ (kE a) i), dl (qR (kE a) i) (qM (kE a) i), D.sl (kJ (kY (kE a) i)) (ka0 (kY (kE a) i)), dl (qS (kE a) i) (qN (kE a) i)] : List D).length = 4)) [(1, kI (kF b) m), (5, oV 1 0 q 1), (7, rV 2 0), (14, kI (kF (kE a)) (ka0 (kE a))), (15, uV (ka0 (kE a))), (16, uV i)] [(1, some (3, .ds (dI .i64 o))), (2, some (59, (d5 a i)))] 3 ⟨rfl, zo, (cN x6), rfl⟩ ?_
  have hx9 : ((ka0 (kE b)) ≤ m) := (by have h9 := eG b; omega)
  refine kP [.no, .call [] (kI (kF (kE b)) (ka0 (kE b))) [] 0 [] none, .no, .no] _ [(1, kI (kF b) m), (5, oV 1 0 q 1), (7, rV 2 0), (14, kI (kF (kE a)) (ka0 (kE a))), (15, uV (ka0 (kE a))), (16, uV i), (21, kI (kF (kE b)) (ka0 (kE b))), (22, uV (ka0 (kE b))), (23, iV 0)] (jL b m zo zo (qF : BsW b)) ?_
  refine AW.block ?_
  refine kZ 0 hcx (fun (x : {x : Nat × Nat × List Int // match x with | (j, p, x) => (j ≤ ka0 (kE b)) ∧ (prJ (kE a) (kE b) i j = x) ∧ (ka0 x = p) ∧ (p ≤ i * 64 + j)}) => match x with | ⟨(j, p, x), _⟩ => (⟨[(1, kI (kF b) m), (5, oV 3 0 p 1), (7, rV 2 0), (14, kI (kF (kE a)) (ka0 (kE a))), (15, uV (ka0 (kE a))), (16, uV i), (21, kI (kF (kE b)) (ka0 (kE b))), (22, uV (ka0 (kE b))), (23, uV j)], [(3, some (3, .ds (dI .i64 x))), (2, some (59, (d5 a i)))], 4⟩ : ES)) (fun x => match x with | ⟨(j, p, x), _⟩ => ka0 (kE b) - j) ⟨((0 : Nat), (q : Nat), (o : List Int)), ⟨aN, (u4c ho), (by first | assumption | omega), zo⟩⟩ [(3, 1)] (P := (kM (kF b)) ∧ (kH m) ∧ (kH 0) ∧ (kH q) ∧ (kH 0) ∧ (kM (kF (kE a))) ∧ (kH (ka0 (kE a))) ∧ (kO (ka0 (kE a) : Int)) ∧ (kO (i : Int)) ∧ (kM (kF (kE b))) ∧ (kH (ka0 (kE b))) ∧ (kO (ka0 (kE b) : Int)) ∧ (kO 0) ∧ (kM (dI .i64 o)) ∧ (kM [iD (qJ (kE a) i), dl (qR (kE a) i) (qM (kE a) i), D.sl (kJ (kY (kE a) i)) (ka0 (kY (kE a) i)), dl (qS (kE a) i) (qN (kE a) i)])) zk ⟨rfl, rfl, rfl, rfl, rfl, rfl, rfl, rfl, rfl, rfl, rfl, rfl, rfl, rfl, rfl⟩ ?_
  rintro ⟨⟨j, p, x⟩, hinv1⟩
  obtain ⟨hj, hJ, hp, hpm⟩ : (j ≤ ka0 (kE b)) ∧ (prJ (kE a) (kE b) i j = x) ∧ (ka0 x = p) ∧ (p ≤ i * 64 + j) := hinv1
  refine qT (l := [(1, kI (kF b) m), (5, oV 3 0 p 1), (7, rV 2 0), (14, kI (kF (kE a)) (ka0 (kE a))), (15, uV (ka0 (kE a))), (16, uV i), (21, kI (kF (kE b)) (ka0 (kE b))), (22, uV (ka0 (kE b))), (23, uV j)]) (g := [(3, some (3, .ds (dI .i64 x))), (2, some (59, (d5 a i)))]) (nx := 4) rfl rfl rfl ?_
  by_cases hx10 : (((j : Nat) : Int) < (((ka0 (kE b)) : Nat) : Int))
  ·refine kL [.b true] (((j : Int) < (ka0 (kE b) : Int))) [(1, kI (kF b) m), (5, oV 3 0 p 1), (7, rV 2 0), (14, kI (kF (kE a)) (ka0 (kE a))), (15, uV (ka0 (kE a))), (16, uV i), (21, kI (kF (kE b)) (ka0 (kE b))), (22, uV (ka0 (kE b))), (23, uV j), (24, bV true)] [(2, some (59, (d5 a i))), (3, some (3, .ds (dI .i64 x)))] 4 zo ?_
   refine AW.seq ?_
   refine vP ?_
   refine AW.seq ?_
   refine AW.block ?_
   obtain ⟨hx11, hx12, hx13, hx14, hx15⟩ := BsW.at (aK (qF : BsW b)) (j)
   have hx16 : ((1 : Nat) ≤ (ka0 (kY (kE b) j))) := lP zo
   refine kL [.n j, .ds [iD (qJ (kE b) j), dl (qR (kE b) j) (qM (kE b) j), D.sl (kJ (kY (kE b) j)) (ka0 (kY (kE b) j)), dl (qS (kE b) j) (qN (kE b) j)], .no, .no] ((kO (j : Int)) ∧ (j < (ka0 (kE b))) ∧ (List.take 4 (ka4 (j * 4) (kF (kE b))) = [iD (qJ (kE b) j), dl (qR (kE b) j) (qM (kE b) j), D.sl (kJ (kY (kE b) j)) (ka0 (kY (kE b) j)), dl (qS (kE b) j) (qN (kE b) j)]) ∧ (([iD (qJ (kE b) j), dl (qR (kE b) j) (qM (kE b) j), D.sl (kJ (kY (kE b) j)) (ka0 (kY (kE b) j)), dl (qS (kE b) j) (qN (kE b) j)] : List D).length = 4)) [(1, kI (kF b) m), (5, oV 3 0 p 1), (7, rV 2 0), (9, rV 4 0), (14, kI (kF (kE a)) (ka0 (kE a))), (15, uV (ka0 (kE a))), (16, uV i), (21, kI (kF (kE b)) (ka0 (kE b))), (22, uV (ka0 (kE b))), (23, uV j)] [(2, some (59, (d5 a i))), (3, some (3, .ds (dI .i64 x))), (4, some (59, .ds [iD (qJ (kE b) j), dl (qR (kE b) j) (qM (kE b) j), D.sl (kJ (kY (kE b) j)) (ka0 (kY (kE b) j)), dl (qS (kE b) j) (qN (kE b) j)]))] 5 ⟨rfl, zo, (cN x6), rfl⟩ ?_
   have hx17 : (((0 : Int) ≤ (tI (qJ (kE a) i) (qR (kE a) i) (qM (kE a) i) (kY (kE a) i) (ka0 (kY (kE a) i)) (qS (kE a) i) (qN (kE a) i) (qJ (kE b) j) (qR (kE b) j) (qM (kE b) j) (kY (kE b) j) (qS (kE b) j) (qN (kE b) j))) ∧ ((tI (qJ (kE a) i) (qR (kE a) i) (qM (kE a) i) (kY (kE a) i) (ka0 (kY (kE a) i)) (qS (kE a) i) (qN (kE a) i) (qJ (kE b) j) (qR (kE b) j) (qM (kE b) j) (kY (kE b) j) (qS (kE b) j) (qN (kE b) j)) ≤ 15)) := k0r ..
   refine a5 [.no, .no, .no, .call [] (iV (tI (qJ (kE a) i) (qR (kE a) i) (qM (kE a) i) (kY (kE a) i) (ka0 (kY (kE a) i)) (qS (kE a) i) (qN (kE a) i) (qJ (kE b) j) (qR (kE b) j) (qM (kE b) j) (kY (kE b) j) (qS (kE b) j) (qN (kE b) j))) [] 0 [] none, .no, .ap none (p + 1) (dI .i64 (x ++ ([(tI (qJ (kE a) i) (qR (kE a) i) (qM (kE a) i) (kY (kE a) i) (ka0 (kY (kE a) i)) (qS (kE a) i) (qN (kE a) i) (qJ (kE b) j) (qR (kE b) j) (qM (kE b) j) (kY (kE b) j) (qS (kE b) j) (qN (kE b) j))] : List Int))), .no] ((_) ∧ ([iD (tI (qJ (kE a) i) (qR (kE a) i) (qM (kE a) i) (kY (kE a) i) (ka0 (kY (kE a) i)) (qS (kE a) i) (qN (kE a) i) (qJ (kE b) j) (qR (kE b) j) (qM (kE b) j) (kY (kE b) j) (qS (kE b) j) (qN (kE b) j))].length = 1 * 1) ∧ (((dI .i64 x) : List D).length = p * 1) ∧ ((p + 1) * 8 ≤ 140737488355328) ∧ (p + 1 = (p + 1)) ∧ (((dI .i64 x) : List D) ++ [iD (tI (qJ (kE a) i) (qR (kE a) i) (qM (kE a) i) (kY (kE a) i) (ka0 (kY (kE a) i)) (qS (kE a) i) (qN (kE a) i) (qJ (kE b) j) (qR (kE b) j) (qM (kE b) j) (kY (kE b) j) (qS (kE b) j) (qN (kE b) j))] = (dI .i64 (x ++ ([(tI (qJ (kE a) i) (qR (kE a) i) (qM (kE a) i) (kY (kE a) i) (ka0 (kY (kE a) i)) (qS (kE a) i) (qN (kE a) i) (qJ (kE b) j) (qR (kE b) j) (qM (kE b) j) (kY (kE b) j) (qS (kE b) j) (qN (kE b) j))] : List Int))))) [(1, kI (kF b) m), (5, oV 6 0 (p + 1) 1), (7, rV 2 0), (14, kI (kF (kE a)) (ka0 (kE a))), (15, uV (ka0 (kE a))), (16, uV i), (21, kI (kF (kE b)) (ka0 (kE b))), (22, uV (ka0 (kE b))), (23, uV j)] [(2, some (59, (d5 a i))), (6, some (3, .ds (dI .i64 (x ++ ([(tI (qJ (kE a) i) (qR (kE a) i) (qM (kE a) i) (kY (kE a) i) (ka0 (kY (kE a) i)) (qS (kE a) i) (qN (kE a) i) (qJ (kE b) j) (qR (kE b) j) (qM (kE b) j) (kY (kE b) j) (qS (kE b) j) (qN (kE b) j))] : List Int)))))] 7 ⟨(u7b (qJ (kE a) i) (qR (kE a) i) (qM (kE a) i) (kY (kE a) i) (ka0 (kY (kE a) i)) (qS (kE a) i) (qN (kE a) i) (qJ (kE b) j) (qR (kE b) j) (qM (kE b) j) (kY (kE b) j) (ka0 (kY (kE b) j)) (qS (kE b) j) (qN (kE b) j) a9 a9 rfl a9 a9 a9 (vM (aK (qF : BsW a)) _) a9 a9 rfl a9 a9 a9 (vM (aK (qF : BsW b)) _)), cZ, cZ, zo, zo, (yF .i64 x ([(tI (qJ (kE a) i) (qR (kE a) i) (qM (kE a) i) (kY (kE a) i) (ka0 (kY (kE a) i)) (qS (kE a) i) (qN (kE a) i) (qJ (kE b) j) (qR (kE b) j) (qM (kE b) j) (kY (kE b) j) (qS (kE b) j) (qN (kE b) j))] : List Int))⟩ ?_
   refine uS [.w, .no] ((-9223372036854775808) ≤ ((j : Int) + 1) ∧ ((j : Int) + 1) ≤ 9223372036854775807) [(1, kI (kF b) m), (5, oV 6 0 (p + 1) 1), (7, rV 2 0), (14, kI (kF (kE a)) (ka0 (kE a))), (15, uV (ka0 (kE a))), (16, uV i), (21, kI (kF (kE b)) (ka0 (kE b))), (22, uV (ka0 (kE b))), (23, iV (↑j + 1))] ⟨by omega, by omega⟩ ?_
   exact kW ⟨(((j + 1) : Nat), ((p + 1) : Nat), ((x ++ ([(tI (qJ (kE a) i) (qR (kE a) i) (qM (kE a) i) (kY (kE a) i) (ka0 (kY (kE a) i)) (qS (kE a) i) (qN (kE a) i) (qJ (kE b) j) (qR (kE b) j) (qM (kE b) j) (kY (kE b) j) (qS (kE b) j) (qN (kE b) j))] : List Int)) : List Int)), ⟨aN, (u4a hJ rfl), xZ, zo⟩⟩ [(3, 6)] (P := (kM (kF b)) ∧ (kH m) ∧ (kH 0) ∧ (kH (p + 1)) ∧ (kH 0) ∧ (kM (kF (kE a))) ∧ (kH (ka0 (kE a))) ∧ (kO (ka0 (kE a) : Int)) ∧ (kO (i : Int)) ∧ (kM (kF (kE b))) ∧ (kH (ka0 (kE b))) ∧ (kO (ka0 (kE b) : Int)) ∧ (((((j + 1) : Nat) : Int) : Int) = ((j : Int) + 1)) ∧ (kM (dI .i64 (x ++ ([(tI (qJ (kE a) i) (qR (kE a) i) (qM (kE a) i) (kY (kE a) i) (ka0 (kY (kE a) i)) (qS (kE a) i) (qN (kE a) i) (qJ (kE b) j) (qR (kE b) j) (qM (kE b) j) (kY (kE b) j) (qS (kE b) j) (qN (kE b) j))] : List Int)))) ∧ (kM [iD (qJ (kE a) i), dl (qR (kE a) i) (qM (kE a) i), D.sl (kJ (kY (kE a) i)) (ka0 (kY (kE a) i)), dl (qS (kE a) i) (qN (kE a) i)])) zk ⟨rfl, rfl, rfl, rfl, rfl, rfl, rfl, rfl, rfl, rfl, rfl, rfl, a8, rfl, rfl⟩ (show ka0 (kE b) - (j + 1) < ka0 (kE b) - j from dT)
  ·refine kL [.b false] (¬ ((j : Int) < (ka0 (kE b) : Int))) [(1, kI (kF b) m), (5, oV 3 0 p 1), (7, rV 2 0), (14, kI (kF (kE a)) (ka0 (kE a))), (15, uV (ka0 (kE a))), (16, uV i), (21, kI (kF (kE b)) (ka0 (kE b))), (22, uV (ka0 (kE b))), (23, uV j), (24, bV false)] [(2, some (59, (d5 a i))), (3, some (3, .ds (dI .i64 x)))] 4 zo ?_
   refine AW.seq ?_
   refine zf ?_
   refine AW.exit ?_
   refine a5 [.w, .no] ((-9223372036854775808) ≤ ((i : Int) + 1) ∧ ((i : Int) + 1) ≤ 9223372036854775807) [(1, kI (kF b) m), (5, oV 3 0 p 1), (14, kI (kF (kE a)) (ka0 (kE a))), (15, uV (ka0 (kE a))), (16, iV (↑i + 1))] [(3, some (3, .ds (dI .i64 x)))] 4 ⟨by omega, by omega⟩ ?_
   exact kW ⟨(((i + 1) : Nat), (p : Nat), (x : List Int)), ⟨aN, (u4b hJ zo), (by first | assumption | omega), zo⟩⟩ [(1, 3)] (P := (kM (kF b)) ∧ (kH m) ∧ (kH 0) ∧ (kH p) ∧ (kM (kF (kE a))) ∧ (kH (ka0 (kE a))) ∧ (kO (ka0 (kE a) : Int)) ∧ (((((i + 1) : Nat) : Int) : Int) = ((i : Int) + 1)) ∧ (kM (dI .i64 x))) zk ⟨rfl, rfl, rfl, rfl, rfl, rfl, rfl, a8, rfl⟩ (show ka0 (kE a) - (i + 1) < ka0 (kE a) - i from dT)
 ·refine kL [.b false] (¬ ((i : Int) < (ka0 (kE a) : Int))) [(1, kI (kF b) m), (5, oV 1 0 q 1), (14, kI (kF (kE a)) (ka0 (kE a))), (15, uV (ka0 (kE a))), (16, uV i), (17, bV false)] [(1, some (3, .ds (dI .i64 o)))] 2 zo ?_
  refine AW.seq ?_
  refine zf ?_
  refine AW.exit ?_
  refine AW.seq ?_
  rcases kb2 (ctB o q 15) with hx18 | hx18
  ·refine AW.freeze 1 (l' := [(1, kI (kF b) m), (5, sV .i64 o q), (14, kI (kF (kE a)) (ka0 (kE a))), (15, uV (ka0 (kE a))), (16, uV i), (17, bV false)]) (g' := []) rfl (FzS.cons rfl (.same _) (FzS.cons rfl (.e (.c (@FzC.own 1 ((dI .i64 o) : List D) 0 q 1 true ((dI .i64 o) : List D) x7 cZ))) (FzS.cons rfl (.same _) (FzS.cons rfl (.same _) (FzS.cons rfl (.same _) (FzS.cons rfl (.same _) FzS.nil)))))) FzG.nil ?_
   refine kL [.no, .call [] (bV true) [] 0 [] none] (Fun 74 [.c (.d (dl o q)), iE 15] (kK []) 0 (bV true) (kK []) 0) [(5, sV .i64 o q), (36, bV true)] [] 2 (by have h0 := (u5y o q 15 zo zo); rw [hx18] at h0; exact h0) ?_
   refine zt ?_
   refine kP [.no] True [(4, iV 0)] trivial ?_
   refine AW.ret ?_
   exact kD (.inr rfl) [] (P := (((eL a b) : Int) = 0)) zk (by first | exact u5l ho zo hq (by assumption) | exact u5k ho zo hq (by assumption) hy zo)
  ·refine AW.freeze 1 (l' := [(1, kI (kF b) m), (5, sV .i64 o q), (14, kI (kF (kE a)) (ka0 (kE a))), (15, uV (ka0 (kE a))), (16, uV i), (17, bV false)]) (g' := []) rfl (FzS.cons rfl (.same _) (FzS.cons rfl (.e (.c (@FzC.own 1 ((dI .i64 o) : List D) 0 q 1 true ((dI .i64 o) : List D) x7 cZ))) (FzS.cons rfl (.same _) (FzS.cons rfl (.same _) (FzS.cons rfl (.same _) (FzS.cons rfl (.same _) FzS.nil)))))) FzG.nil ?_
   refine kL [.no, .call [] (bV false) [] 0 [] none] (Fun 74 [.c (.d (dl o q)), iE 15] (kK []) 0 (bV false) (kK []) 0) [(5, sV .i64 o q), (36, bV false)] [] 2 (by have h0 := (u5y o q 15 zo zo); rw [hx18] at h0; exact h0) ?_
   refine uB ?_
   refine kP [.no] True [(5, sV .i64 o q), (10, iV 15)] trivial ?_
   refine AW.seq ?_
   refine kL [.no, .no] True [(5, sV .i64 o q), (10, iV 15), (11, rV 2 0)] [(2, some (3, .ds [iD 14]))] 3 trivial ?_
   refine AW.block ?_
   refine kZ 0 hcx (fun (x : {x : Nat × Int // match x with | (z, y) => (z ≤ 14 ∧ 0 ≤ y ∧ y ≤ 15) ∧ (gD o q z = y)}) => match x with | ⟨(z, y), _⟩ => (⟨[(5, sV .i64 o q), (10, iV y), (11, rV 3 0)], [(3, some (3, .ds [iD (14 - (z : Int))]))], 4⟩ : ES)) (fun x => match x with | ⟨(z, y), _⟩ => 14 - z) ⟨((0 : Nat), (15 : Int)), ⟨aN, rfl⟩⟩ [(3, 2)] (P := (kM (dI .i64 o)) ∧ (kH q) ∧ (kO 15) ∧ (kH 0) ∧ (kM [iD 14])) zk ⟨rfl, rfl, rfl, rfl, rfl⟩ ?_
   rintro ⟨⟨z, y⟩, hinv2⟩
   obtain ⟨hz, hy⟩ : (z ≤ 14 ∧ 0 ≤ y ∧ y ≤ 15) ∧ (gD o q z = y) := hinv2
   refine qT (l := [(5, sV .i64 o q), (10, iV y), (11, rV 3 0)]) (g := [(3, some (3, .ds [iD (14 - (z : Int))]))]) (nx := 4) rfl rfl rfl ?_
   refine AW.seq ?_
   by_cases hx19 : ((0 : Int) < (14 - ((z : Nat) : Int)))
   ·refine kL [.no, .b true] (((0 : Int) < (14 - (z : Int)))) [(5, sV .i64 o q), (10, iV y), (11, rV 3 0), (38, bV true)] [(3, some (3, .ds [iD (14 - ↑z)]))] 4 zo ?_
    refine vP ?_
    refine AW.seq ?_
    refine AW.block ?_
    refine kP [.no, .no] True [(5, sV .i64 o q), (10, iV y), (11, rV 3 0), (12, .e (.c (.fn 75 [(3, 0)])))] trivial ?_
    by_cases hx20 : ((0 : Int) < ((q : Nat) : Int))
    ·rcases kb2 (tM o q (14 - ((z : Nat) : Int))) with hx21 | hx21
     ·refine kP [.no, .no, .b true, .no, .no, .no, .call [3] (bV true) [(0, some (3, .ds [iD (14 - (z : Int))]))] 1 [] none, .no, .no, .no, .no] ((((0 : Int) < (q : Int))) ∧ (Fun 76 [.c (.d (dl o q)), .c (.fn 75 [(0, 0)])] (kK [(0, some (3, .ds [iD (14 - (z : Int))]))]) 1 (bV true) (kK [(0, some (3, .ds [iD (14 - (z : Int))]))]) 1)) [(5, sV .i64 o q), (10, iV y), (11, rV 3 0), (59, bV false)] ⟨zo, (by have h0 := (u3l o q (14 - (z : Int)) zo zo); rw [hx21] at h0; exact h0)⟩ ?_
      refine uB ?_
      refine AW.seq ?_
      refine kL [.no] True [(5, sV .i64 o q), (10, iV y), (61, iV (14 - ↑z))] [] 4 trivial ?_
      refine a5 [.no, .no] True [(5, sV .i64 o q), (10, iV y), (11, rV 4 0)] [(4, some (3, .ds [iD (14 - ↑z)]))] 5 trivial ?_
      refine a5 [.no, .w, .no] ((-9223372036854775808) ≤ ((14 - (z : Int)) - 1) ∧ ((14 - (z : Int)) - 1) ≤ 9223372036854775807) [(5, sV .i64 o q), (10, iV y), (11, rV 4 0)] [(4, some (3, .ds [iD ((14 - ↑z) - 1)]))] 5 ⟨by omega, by omega⟩ ?_
      exact kW ⟨(((z + 1) : Nat), (y : Int)), ⟨aN, (by first | exact k9y hy zo (by assumption) zo rfl | exact u01 hy zo | exact u00 hy (by assumption) | exact k9z hy zo)⟩⟩ [(3, 4)] (P := (kM (dI .i64 o)) ∧ (kH q) ∧ (kO y) ∧ (kH 0) ∧ (([iD (14 - (((z + 1) : Nat) : Int))] : List D) = [iD ((14 - (z : Int)) - 1)])) zk ⟨rfl, rfl, rfl, rfl, (by first | rfl | with_reducible assumption | (rw [show (14 - ((z + 1 : Nat) : Int)) = 14 - (z : Int) - 1 by omega]))⟩ (show 14 - (z + 1) < 14 - z from dT)
     ·by_cases hx22 : ((uM (14 - ((z : Nat) : Int))) ≤ (uM y))
      ·refine kP [.no, .no, .b true, .no, .no, .no, .call [3] (bV false) [(0, some (3, .ds [iD (14 - (z : Int))]))] 1 [] none, .no, .no, .no, .no, .w, .call [] (iV (uM (14 - (z : Int)))) [] 0 [] none, .no, .w, .call [] (iV (uM y)) [] 0 [] none, .b true, .no] ((((0 : Int) < (q : Int))) ∧ (Fun 76 [.c (.d (dl o q)), .c (.fn 75 [(0, 0)])] (kK [(0, some (3, .ds [iD (14 - (z : Int))]))]) 1 (bV false) (kK [(0, some (3, .ds [iD (14 - (z : Int))]))]) 1) ∧ (0 ≤ (14 - (z : Int)) ∧ (14 - (z : Int)) ≤ 18446744073709551615) ∧ (_) ∧ (0 ≤ y ∧ y ≤ 18446744073709551615) ∧ (_) ∧ (((uM (14 - (z : Int))) ≤ (uM y)))) [(5, sV .i64 o q), (10, iV y), (11, rV 3 0), (59, bV true)] ⟨zo, (by have h0 := (u3l o q (14 - (z : Int)) zo zo); rw [hx21] at h0; exact h0), ⟨by omega, by omega⟩, (u07 (14 - (z : Int)) zo), ⟨by omega, by omega⟩, (u07 y zo), zo⟩ ?_
       refine zt ?_
       refine uS [.no, .no] True [(5, sV .i64 o q), (10, iV (14 - ↑z)), (11, rV 3 0)] trivial ?_
       refine AW.seq ?_
       refine kL [.no] True [(5, sV .i64 o q), (10, iV (14 - ↑z)), (61, iV (14 - ↑z))] [] 4 trivial ?_
       refine a5 [.no, .no] True [(5, sV .i64 o q), (10, iV (14 - ↑z)), (11, rV 4 0)] [(4, some (3, .ds [iD (14 - ↑z)]))] 5 trivial ?_
       refine a5 [.no, .w, .no] ((-9223372036854775808) ≤ ((14 - (z : Int)) - 1) ∧ ((14 - (z : Int)) - 1) ≤ 9223372036854775807) [(5, sV .i64 o q), (10, iV (14 - ↑z)), (11, rV 4 0)] [(4, some (3, .ds [iD ((14 - ↑z) - 1)]))] 5 ⟨by omega, by omega⟩ ?_
       exact kW ⟨(((z + 1) : Nat), ((14 - (z : Int)) : Int)), ⟨aN, (by first | exact k9y hy zo (by assumption) zo rfl | exact u01 hy zo | exact u00 hy (by assumption) | exact k9z hy zo)⟩⟩ [(3, 4)] (P := (kM (dI .i64 o)) ∧ (kH q) ∧ (kO (14 - (z : Int))) ∧ (kH 0) ∧ (([iD (14 - (((z + 1) : Nat) : Int))] : List D) = [iD ((14 - (z : Int)) - 1)])) zk ⟨rfl, rfl, rfl, rfl, (by first | rfl | with_reducible assumption | (rw [show (14 - ((z + 1 : Nat) : Int)) = 14 - (z : Int) - 1 by omega]))⟩ (show 14 - (z + 1) < 14 - z from dT)
      ·refine kP [.no, .no, .b true, .no, .no, .no, .call [3] (bV false) [(0, some (3, .ds [iD (14 - (z : Int))]))] 1 [] none, .no, .no, .no, .no, .w, .call [] (iV (uM (14 - (z : Int)))) [] 0 [] none, .no, .w, .call [] (iV (uM y)) [] 0 [] none, .b false, .no] ((((0 : Int) < (q : Int))) ∧ (Fun 76 [.c (.d (dl o q)), .c (.fn 75 [(0, 0)])] (kK [(0, some (3, .ds [iD (14 - (z : Int))]))]) 1 (bV false) (kK [(0, some (3, .ds [iD (14 - (z : Int))]))]) 1) ∧ (0 ≤ (14 - (z : Int)) ∧ (14 - (z : Int)) ≤ 18446744073709551615) ∧ (_) ∧ (0 ≤ y ∧ y ≤ 18446744073709551615) ∧ (_) ∧ (¬ ((uM (14 - (z : Int))) ≤ (uM y)))) [(5, sV .i64 o q), (10, iV y), (11, rV 3 0), (59, bV false)] ⟨zo, (by have h0 := (u3l o q (14 - (z : Int)) zo zo); rw [hx21] at h0; exact h0), ⟨by omega, by omega⟩, (u07 (14 - (z : Int)) zo), ⟨by omega, by omega⟩, (u07 y zo), zo⟩ ?_
       refine uB ?_
       refine AW.seq ?_
       refine kL [.no] True [(5, sV .i64 o q), (10, iV y), (61, iV (14 - ↑z))] [] 4 trivial ?_
       refine a5 [.no, .no] True [(5, sV .i64 o q), (10, iV y), (11, rV 4 0)] [(4, some (3, .ds [iD (14 - ↑z)]))] 5 trivial ?_
       refine a5 [.no, .w, .no] ((-9223372036854775808) ≤ ((14 - (z : Int)) - 1) ∧ ((14 - (z : Int)) - 1) ≤ 9223372036854775807) [(5, sV .i64 o q), (10, iV y), (11, rV 4 0)] [(4, some (3, .ds [iD ((14 - ↑z) - 1)]))] 5 ⟨by omega, by omega⟩ ?_
       exact kW ⟨(((z + 1) : Nat), (y : Int)), ⟨aN, (by first | exact k9y hy zo (by assumption) zo rfl | exact u01 hy zo | exact u00 hy (by assumption) | exact k9z hy zo)⟩⟩ [(3, 4)] (P := (kM (dI .i64 o)) ∧ (kH q) ∧ (kO y) ∧ (kH 0) ∧ (([iD (14 - (((z + 1) : Nat) : Int))] : List D) = [iD ((14 - (z : Int)) - 1)])) zk ⟨rfl, rfl, rfl, rfl, (by first | rfl | with_reducible assumption | (rw [show (14 - ((z + 1 : Nat) : Int)) = 14 - (z : Int) - 1 by omega]))⟩ (show 14 - (z + 1) < 14 - z from dT)
    ·refine kP (.no :: .no :: .b false :: qA 4 []) (¬ ((0 : Int) < (q : Int))) [(5, sV .i64 o q), (10, iV y), (11, rV 3 0), (59, bV false)] zo ?_
     refine uB ?_
     refine AW.seq ?_
     refine kL [.no] True [(5, sV .i64 o q), (10, iV y), (61, iV (14 - ↑z))] [] 4 trivial ?_
     refine a5 [.no, .no] True [(5, sV .i64 o q), (10, iV y), (11, rV 4 0)] [(4, some (3, .ds [iD (14 - ↑z)]))] 5 trivial ?_
     refine a5 [.no, .w, .no] ((-9223372036854775808) ≤ ((14 - (z : Int)) - 1) ∧ ((14 - (z : Int)) - 1) ≤ 9223372036854775807) [(5, sV .i64 o q), (10, iV y), (11, rV 4 0)] [(4, some (3, .ds [iD ((14 - ↑z) - 1)]))] 5 ⟨by omega, by omega⟩ ?_
     exact kW ⟨(((z + 1) : Nat), (y : Int)), ⟨aN, (by first | exact k9y hy zo (by assumption) zo rfl | exact u01 hy zo | exact u00 hy (by assumption) | exact k9z hy zo)⟩⟩ [(3, 4)] (P := (kM (dI .i64 o)) ∧ (kH q) ∧ (kO y) ∧ (kH 0) ∧ (([iD (14 - (((z + 1) : Nat) : Int))] : List D) = [iD ((14 - (z : Int)) - 1)])) zk ⟨rfl, rfl, rfl, rfl, (by first | rfl | with_reducible assumption | (rw [show (14 - ((z + 1 : Nat) : Int)) = 14 - (z : Int) - 1 by omega]))⟩ (show 14 - (z + 1) < 14 - z from dT)
   ·refine kL [.no, .b false] (¬ ((0 : Int) < (14 - (z : Int)))) [(5, sV .i64 o q), (10, iV y), (11, rV 3 0), (38, bV false)] [(3, some (3, .ds [iD (14 - ↑z)]))] 4 zo ?_
    refine zf ?_
    refine AW.exit ?_
    refine kL [.no, .no] True [(4, iV y)] [] 4 trivial ?_
    refine AW.ret ?_
    exact kD (.inr rfl) [] (P := (((eL a b) : Int) = y)) zk (by first | exact u5l ho zo hq (by assumption) | exact u5k ho zo hq (by assumption) hy zo)
end Go.Proofs.YtcfmjpnffembpaaGreat
