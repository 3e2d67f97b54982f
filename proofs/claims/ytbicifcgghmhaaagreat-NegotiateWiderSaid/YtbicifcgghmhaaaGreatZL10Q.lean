/- What is to blame, of the code. No statement is proved here. -/
import Derived.Test.YtbicifcgghmhaaaGreatZL10N
namespace Go.Proofs.YtbicifcgghmhaaaGreat
open Go.ChangeShapes Go.WideShapes Go.ChangeAt Go.RowKit
open Bool renaming eq_false_or_eq_true → ka9
open List renaming drop → ka3, getD → ka1, length → ka0, length_append → ka8, length_cons → kb0, length_drop → kb6, length_map → kc3, length_nil → kb2, length_replicate → kb5, length_reverse → kc0, length_set → kc1, length_take → kb4
open Nat renaming le_of_ble_eq_true → ka4, mul_one → kc6
set_option linter.unusedVariables false
set_option linter.unusedSimpArgs false
/-! chapter 10: what is to blame -/
set_option maxHeartbeats 4000000
set_option maxRecDepth 100000
def qG (a b : Int) : Int := qF .and .i64 a b
def tU (k : Int) (r : List Int) (rn : Nat) (m : List (List Int)) (c : Nat) (s : List Int) (sn : Nat) (k2 : Int) (r2 : List Int) (rn2 : Nat) (m2 : List (List Int)) (s2 : List Int) (sn2 : Nat) : Int :=
 (if qG k k2 = 0 then 0 else 1) + (if qK (kB r rn) (kB r2 rn2) = 0 then 0 else 2) + (if ka0 (uS m m2 c) = 0 then 0 else 4) + (if qK (kB s sn) (kB s2 sn2) = 0 then 0 else 8)
def yQ (k k2 : Int) : Int := if qG k k2 = 0 then 0 else 1
def oS (a : Int) (n : Nat) (b : Int) : Int := a + (if n = 0 then 0 else b)
theorem j9 (k k2 : Int) : (qG k k2 = 0 ∧ yQ k k2 = 0) ∨ (¬ qG k k2 = 0 ∧ yQ k k2 = 1) := by
 unfold yQ; split
 ·exact .inl ⟨by assumption, rfl⟩
 ·exact .inr ⟨by assumption, rfl⟩
theorem lN (a : Int) (n : Nat) (b : Int) : (n = 0 ∧ oS a n b = a) ∨ (1 ≤ n ∧ oS a n b = a + b) := by
 unfold oS; split
 ·exact .inl ⟨by assumption, by omega⟩
 ·exact .inr ⟨by omega, rfl⟩
theorem v4w {a : Int} (h : 0 ≤ a ∧ a ≤ 1) : qF .or .i64 a 2 = a + 2 := by
 rcases (by omega : a = 0 ∨ a = 1) with rfl | rfl <;> decide
theorem v4v {a : Int} (h : 0 ≤ a ∧ a ≤ 3) : qF .or .i64 a 4 = a + 4 := by
 rcases (by omega : a = 0 ∨ a = 1 ∨ a = 2 ∨ a = 3) with rfl | rfl | rfl | rfl <;> decide
theorem v4u {a : Int} (h : 0 ≤ a ∧ a ≤ 7) : qF .or .i64 a 8 = a + 8 := by
 rcases (by omega : a = 0 ∨ a = 1 ∨ a = 2 ∨ a = 3 ∨ a = 4 ∨ a = 5 ∨ a = 6 ∨ a = 7) with rfl | rfl | rfl | rfl | rfl | rfl | rfl | rfl <;> decide
theorem u1k (k : Int) (r : List Int) (rn : Nat) (m : List (List Int)) (c : Nat) (s : List Int) (sn : Nat) (k2 : Int) (r2 : List Int) (rn2 : Nat) (m2 : List (List Int)) (s2 : List Int) (sn2 : Nat) : 0 ≤ tU k r rn m c s sn k2 r2 rn2 m2 s2 sn2 ∧ tU k r rn m c s sn k2 r2 rn2 m2 s2 sn2 ≤ 15 := by
 unfold tU; (repeat' split) <;> omega
def shE (xs ys : List Bx) (i j : Nat) : Int := tU (kQ xs i) (kY xs i) (kV xs i) (kT xs i) (ka0 (kT xs i)) (kX xs i) (kU xs i) (kQ ys j) (kY ys j) (kV ys j) (kT ys j) (kX ys j) (kU ys j)
def o4 (xs ys : List Bx) : Nat → List Int
 | 0 => []
 | i + 1 => o4 xs ys i ++ (List.range (ka0 ys)).map (shE xs ys i)
def prJ (xs ys : List Bx) (i j : Nat) : List Int := o4 xs ys i ++ (List.range j).map (shE xs ys i)
theorem v13 {xs ys : List Bx} {i : Nat} {o : List Int} (h : o4 xs ys i = o) : prJ xs ys i 0 = o := by
 unfold prJ; rw [h]; exact List.append_nil _
theorem v11 {xs ys : List Bx} {i j : Nat} {o : List Int} {x : Int} (h : prJ xs ys i j = o) (hx : x = shE xs ys i j) : prJ xs ys i (j + 1) = o ++ [x] := by
 subst h; subst hx
 unfold prJ; rw [List.range_succ, List.map_append, List.append_assoc]; rfl
theorem v12 {xs ys : List Bx} {i j : Nat} {o : List Int} (h : prJ xs ys i j = o) (hj : j = ka0 ys) : o4 xs ys (i + 1) = o := by
 subst hj; exact h
theorem k1q (xs ys : List Bx) : ∀ i, ka0 (o4 xs ys i) = i * ka0 ys
 | 0 => (Nat.zero_mul _).symm
 | i + 1 => by rw [o4, ka8, k1q xs ys i, kc3, List.length_range, Nat.succ_mul]
def ctB (l : List Int) (n : Nat) (v : Int) : Bool := decide (0 ≤ uH l v n)
def stB (d s : Int) : Bool := decide (qG d s = s)
def lB (l : List Int) (s : Int) : Nat → Int := gY fun j => stB (ka1 l j 0) s
theorem u4t {l : List Int} {s : Int} {k : Nat} (h : lB l s k = -1) (h2 : stB (ka1 l k 0) s = false) : lB l s (k + 1) = -1 := b8 h h2
theorem u4u {l : List Int} {s : Int} {k : Nat} (h : lB l s k = -1) (h2 : stB (ka1 l k 0) s = true) {n : Nat} (hn : k < n) : lB l s n = (k : Int) := d5 h h2 n hn
def jD (l : List Int) (n : Nat) (s : Int) : Bool := decide (0 ≤ lB l s n)
def uB (x : Int) : Int := x % 2 + x / 2 % 2 + x / 4 % 2 + x / 8 % 2
def bI (l : List Int) (n : Nat) : Nat → Int
 | 0 => 15
 | i + 1 => if 1 ≤ n ∧ jD l n (14 - (i : Int)) = false ∧ uB (14 - (i : Int)) ≤ uB (bI l n i) then 14 - (i : Int) else bI l n i
theorem tC (l : List Int) (n : Nat) : ∀ i, i ≤ 14 → 0 ≤ bI l n i ∧ bI l n i ≤ 15
 | 0, _ => ⟨(by decide : (0 : Int) ≤ 15), Int.le_refl 15⟩
 | i + 1, h => by
  have := tC l n i (by omega)
  rw [bI]; split <;> omega
theorem v6d {l : List Int} {n i : Nat} {y x : Int} (h : bI l n i = y) (h1 : 1 ≤ n) (h2 : jD l n (14 - (i : Int)) = false) (h3 : uB (14 - (i : Int)) ≤ uB y) (hx : x = 14 - (i : Int)) : bI l n (i + 1) = x := by
 subst h; rw [hx]; exact if_pos ⟨h1, h2, h3⟩
theorem v6i {l : List Int} {n i : Nat} {y : Int} (h : bI l n i = y) (h1 : ¬ 1 ≤ n) : bI l n (i + 1) = y := by
 subst h; exact if_neg fun e => h1 e.1
theorem v6f {l : List Int} {n i : Nat} {y : Int} (h : bI l n i = y) (h2 : jD l n (14 - (i : Int)) = true) : bI l n (i + 1) = y := by
 subst h; exact if_neg fun e => by rw [h2] at e; cases e.2.1
theorem v6e {l : List Int} {n i : Nat} {y : Int} (h : bI l n i = y) (h3 : ¬ uB (14 - (i : Int)) ≤ uB y) : bI l n (i + 1) = y := by
 subst h; exact if_neg fun e => h3 e.2.2
def blP (l : List Int) : Int := if ctB l (ka0 l) 15 = true then 0 else bI l (ka0 l) 14
def vR (a b : List Bx) : Int := blP (o4 (kK a) (kK b) (ka0 (kK a)))
theorem v6h {a b : List Bx} {o : List Int} {i n : Nat} (h : o4 (kK a) (kK b) i = o) (hi : i = ka0 (kK a)) (hn : ka0 o = n) (hc : ctB o n 15 = true) : vR a b = 0 := by
 subst hi; subst hn
 unfold vR; rw [h]; exact if_pos hc
theorem v6g {a b : List Bx} {o : List Int} {i n : Nat} {y : Int} {z : Nat} (h : o4 (kK a) (kK b) i = o) (hi : i = ka0 (kK a)) (hn : ka0 o = n) (hc : ctB o n 15 = false) (hy : bI o n z = y) (hz : z = 14) : vR a b = y := by
 subst hi; subst hn; subst hz
 unfold vR; rw [h, ← hy]; exact if_neg (by rw [hc]; decide)
theorem cY (a b : List Bx) : 0 ≤ vR a b ∧ vR a b ≤ 15 := by
 unfold vR blP; split
 ·decide
 ·exact tC _ _ 14 (Nat.le_refl _)
theorem u06 (a : List Bx) : ka0 (kK a) ≤ 64 := by
 unfold kK; split
 ·rename_i h; exact (of_decide_eq_true h).1
 ·exact Nat.zero_le _
theorem c16 {x : Int} (h : 0 ≤ x ∧ x ≤ 15) {p : Int → Prop} (h0 : ∀ n : Nat, n < 16 → p (n : Int)) : p x := by
 have := h0 x.toNat (by omega)
 rw [show ((x.toNat : Nat) : Int) = x by omega] at this; exact this
def tX (x : Int) : Int := x / 2 % 2 + 4 * (x / 8 % 2)
def tW (x : Int) : Int := x % 2 + 4 * (x / 4 % 2)
def o9 (x : Int) : Int := x / 4 % 2 + x / 8 % 2
def o8 (x : Int) : Int := x % 2 + x / 2 % 2
theorem v53 {x : Int} (h : 0 ≤ x ∧ x ≤ 15) : qF .and .u64 (x / 2) 6148914691236517205 = tX x := c16 (p := fun x => qF .and .u64 (x / 2) 6148914691236517205 = tX x) h (by decide)
theorem v52 {x : Int} (h : 0 ≤ x ∧ x ≤ 15) : qF .and .u64 x 6148914691236517205 = tW x := c16 (p := fun x => qF .and .u64 x 6148914691236517205 = tW x) h (by decide)
theorem v51 {x : Int} (h : 0 ≤ x ∧ x ≤ 15) : qF .and .u64 ((tX x + tW x) / 4) 3689348814741910323 = o9 x := c16 (p := fun x => qF .and .u64 ((tX x + tW x) / 4) 3689348814741910323 = o9 x) h (by decide)
theorem v50 {x : Int} (h : 0 ≤ x ∧ x ≤ 15) : qF .and .u64 (tX x + tW x) 3689348814741910323 = o8 x := c16 (p := fun x => qF .and .u64 (tX x + tW x) 3689348814741910323 = o8 x) h (by decide)
theorem v4z {x y : Int} (h : 0 ≤ x ∧ x ≤ 15) (hy : y = o9 x + o8 x) : qF .and .u64 y 1085102592571150095 = uB x := by
 rw [hy]; exact c16 (p := fun x => qF .and .u64 (o9 x + o8 x) 1085102592571150095 = uB x) h (by decide)
theorem v4y {x y : Int} (h : 0 ≤ x ∧ x ≤ 15) (hy : y = uB x) : qF .and .i64 y 127 = uB x := by
 rw [hy]; exact c16 (p := fun x => qF .and .i64 (uB x) 127 = uB x) h (by decide)
theorem v4x {x : Int} (h : 0 ≤ x ∧ x ≤ 15) : (0 ≤ tX x ∧ tX x ≤ 5) ∧ (0 ≤ tW x ∧ tW x ≤ 5) ∧ (0 ≤ o9 x ∧ o9 x ≤ 2) ∧ (0 ≤ o8 x ∧ o8 x ≤ 2) ∧ 0 ≤ uB x ∧ uB x ≤ 4 := by
 unfold tX tW o9 o8 uB; omega
theorem eP {p : Prop} (h : p := by (simp only [qB, qA, qQ, ka8, kb0, kb2, kb4, kb6, kb5, kc1, kc3, kc0, kc6] <;> omega)) : p := h
theorem zW {p : Prop} (h : p := by rw [List.drop_zero, kc6, List.take_of_length_le (by (simp only [qB, qA, qQ, ka8, kb0, kb2, kb4, kb6, kb5, kc1, kc3, kc0, kc6] <;> omega))]) : p := h
theorem k4t (a b : List (List Int)) (n m : Nat) (hn : ka0 a = n) (hm : ka0 b = m) (h1 : n ≤ 1000000) (h2 : m ≤ 1000000) (hW : MsW a) (hV : MsW b) : Fun 161 [.c (.d (D.sl (kI a) n)), .c (.d (D.sl (kI b) m))] (kF []) 0 (qC (kI (uS a b n)) (ka0 (uS a b n))) (kF []) 0 := by
 refine Fun.mk (n := 24) Tryz.func161 rfl rfl (ka4 rfl) ?_
 intro cx hcx
 refine kH [.no] True [(0, qC (kI a) n), (1, qC (kI b) m)] [] 0 trivial ?_
 refine kS [.no] True [(0, qC (kI a) n), (1, qC (kI b) m), (5, nV)] trivial ?_
 refine AW.seq ?_
 refine kS [.no, .no, .no] True [(1, qC (kI b) m), (5, nV), (8, qC (kI a) n), (9, uV n), (10, iV 0)] trivial ?_
 refine AW.block ?_
 refine AW.adoptS 5 1 38 rfl ?_
 refine k8 0 hcx (fun (x : {x : Nat × Nat × List (List Int) // match x with | (i, q, o) => (i ≤ n ∧ q ≤ i) ∧ (uS a b i = o) ∧ (ka0 o = q) ∧ (MsW o)}) => match x with | ⟨(i, q, o), _⟩ => (⟨[(1, qC (kI b) m), (5, oV 1 0 q 1), (8, qC (kI a) n), (9, uV n), (10, uV i)], [(1, some (38, .ds (kI o)))], 2⟩ : ES)) (fun x => match x with | ⟨(i, q, o), _⟩ => n - i) ⟨((0 : Nat), (0 : Nat), (([] : List (List Int)) : List (List Int))), ⟨zo, rfl, rfl, MsW.nil⟩⟩ [(1, 0)] (P := (kJ (kI b)) ∧ (kG m) ∧ (kG 0) ∧ (kG 0) ∧ (kJ (kI a)) ∧ (kG n) ∧ (kM (n : Int)) ∧ (kM 0) ∧ (((kI ([] : List (List Int))) : List D) = ([] : List D))) zk ⟨rfl, rfl, rfl, rfl, rfl, rfl, rfl, rfl, (by rfl)⟩ ?_
 rintro ⟨⟨i, q, o⟩, hinv0⟩
 obtain ⟨hi, ho, hq, hO⟩ : (i ≤ n ∧ q ≤ i) ∧ (uS a b i = o) ∧ (ka0 o = q) ∧ (MsW o) := hinv0
 refine qW (l := [(1, qC (kI b) m), (5, oV 1 0 q 1), (8, qC (kI a) n), (9, uV n), (10, uV i)]) (g := [(1, some (38, .ds (kI o)))]) (nx := 2) rfl rfl rfl ?_
 by_cases hx1 : (((i : Nat) : Int) < ((n : Nat) : Int))
 ·refine kH [.b true] (((i : Int) < (n : Int))) [(1, qC (kI b) m), (5, oV 1 0 q 1), (8, qC (kI a) n), (9, uV n), (10, uV i), (11, bV true)] [(1, some (38, .ds (kI o)))] 2 zo ?_
  refine AW.seq ?_
  refine vL ?_
  refine AW.seq ?_
  refine AW.block ?_
  have hx2 : ((ka0 (ka1 a i ([] : List Int))) ≤ 1000000) := MsW.at (qD : MsW a) _
  refine kS [.n i, .d (dl (ka1 a i ([] : List Int)) (ka0 (ka1 a i ([] : List Int)))), .no] ((kM (i : Int)) ∧ (i < n) ∧ ((ka3 i (kI a))[0]? = some (dl (ka1 a i ([] : List Int)) (ka0 (ka1 a i ([] : List Int)))))) [(1, qC (kI b) m), (5, oV 1 0 q 1), (7, sV .i64 (ka1 a i ([] : List Int)) (ka0 (ka1 a i ([] : List Int)))), (8, qC (kI a) n), (9, uV n), (10, uV i)] ⟨rfl, zo, (bE _ _ zo)⟩ ?_
  rcases ka9 (gX b (ka1 a i ([] : List Int))) with hx3 | hx3
  ·refine kS [.no, .no, .call [] (bV true) [] 0 [] none] (Fun 126 [.c (.d (D.sl (kI b) m)), .c (.d (dl (ka1 a i ([] : List Int)) (ka0 (ka1 a i ([] : List Int)))))] (kF []) 0 (bV true) (kF []) 0) [(1, qC (kI b) m), (5, oV 1 0 q 1), (7, sV .i64 (ka1 a i ([] : List Int)) (ka0 (ka1 a i ([] : List Int)))), (8, qC (kI a) n), (9, uV n), (10, uV i), (16, bV true)] (by have h0 := (i9 b m (ka1 a i ([] : List Int)) (ka0 (ka1 a i ([] : List Int))) zo rfl zo zo (qD : MsW b)); rw [hx3] at h0; exact h0) ?_
   refine zt ?_
   refine aC [.no, .no, (.fz (.call [] (oV 0 0 (ka0 (ka1 a i ([] : List Int))) 1) [(0, some (3, .ds (dI .i64 (ka1 a i ([] : List Int)))))] 1 [] none)), .no, .ap none (q + 1) (kI (o ++ ([(ka1 a i ([] : List Int))] : List (List Int)))), .no] ((_) ∧ (((dI .i64 (ka1 a i ([] : List Int))) : List D).length = (ka0 (ka1 a i ([] : List Int))) * 1) ∧ ([dl (ka1 a i ([] : List Int)) (ka0 (ka1 a i ([] : List Int)))].length = 1 * 1) ∧ (((kI o) : List D).length = q * 1) ∧ ((q + 1) * 24 ≤ 140737488355328) ∧ (q + 1 = (q + 1)) ∧ (((kI o) : List D) ++ [dl (ka1 a i ([] : List Int)) (ka0 (ka1 a i ([] : List Int)))] = (kI (o ++ ([(ka1 a i ([] : List Int))] : List (List Int)))))) [(1, qC (kI b) m), (5, oV 4 0 (q + 1) 1), (8, qC (kI a) n), (9, uV n), (10, uV i)] [(4, some (38, .ds (kI (o ++ ([(ka1 a i ([] : List Int))] : List (List Int))))))] 5 ⟨(c5 (ka1 a i ([] : List Int)) (ka0 (ka1 a i ([] : List Int))) rfl zo), eP, eP, eP, zo, zo, (sA o (ka1 a i ([] : List Int)) (ka0 (ka1 a i ([] : List Int))) (by rfl))⟩ ?_
   refine yA [.w, .no] (u3 ((i : Int) + 1)) [(1, qC (kI b) m), (5, oV 4 0 (q + 1) 1), (8, qC (kI a) n), (9, uV n), (10, iV (↑i + 1))] ⟨by omega, by omega⟩ ?_
   exact kW ⟨(((i + 1) : Nat), ((q + 1) : Nat), ((o ++ ([(ka1 a i ([] : List Int))] : List (List Int))) : List (List Int))), ⟨zo, (by exact v2o ho (by assumption)), (by (simp only [qB, qA, ka8, kb0, kb2] <;> omega)), (by exact MsW.snoc (by assumption) zo)⟩⟩ [(1, 4)] (P := (kJ (kI b)) ∧ (kG m) ∧ (kG 0) ∧ (kG (q + 1)) ∧ (kJ (kI a)) ∧ (kG n) ∧ (kM (n : Int)) ∧ (bU i) ∧ (kJ (kI (o ++ ([(ka1 a i ([] : List Int))] : List (List Int)))))) zk ⟨rfl, rfl, rfl, rfl, rfl, rfl, rfl, (by rfl), rfl⟩ (show n - (i + 1) < n - i from zo)
  ·refine kS [.no, .no, .call [] (bV false) [] 0 [] none] (Fun 126 [.c (.d (D.sl (kI b) m)), .c (.d (dl (ka1 a i ([] : List Int)) (ka0 (ka1 a i ([] : List Int)))))] (kF []) 0 (bV false) (kF []) 0) [(1, qC (kI b) m), (5, oV 1 0 q 1), (7, sV .i64 (ka1 a i ([] : List Int)) (ka0 (ka1 a i ([] : List Int)))), (8, qC (kI a) n), (9, uV n), (10, uV i), (16, bV false)] (by have h0 := (i9 b m (ka1 a i ([] : List Int)) (ka0 (ka1 a i ([] : List Int))) zo rfl zo zo (qD : MsW b)); rw [hx3] at h0; exact h0) ?_
   refine uO ?_
   refine yA [.w, .no] (u3 ((i : Int) + 1)) [(1, qC (kI b) m), (5, oV 1 0 q 1), (8, qC (kI a) n), (9, uV n), (10, iV (↑i + 1))] ⟨by omega, by omega⟩ ?_
   exact kW ⟨(((i + 1) : Nat), (q : Nat), (o : List (List Int))), ⟨zo, (by exact v2p ho (by assumption)), zo, (by assumption)⟩⟩ [] (P := (kJ (kI b)) ∧ (kG m) ∧ (kG 0) ∧ (kG q) ∧ (kJ (kI a)) ∧ (kG n) ∧ (kM (n : Int)) ∧ (bU i) ∧ (kJ (kI o))) zk ⟨rfl, rfl, rfl, rfl, rfl, rfl, rfl, (by rfl), rfl⟩ (show n - (i + 1) < n - i from zo)
 ·refine kH [.b false] (¬ ((i : Int) < (n : Int))) [(1, qC (kI b) m), (5, oV 1 0 q 1), (8, qC (kI a) n), (9, uV n), (10, uV i), (11, bV false)] [(1, some (38, .ds (kI o)))] 2 zo ?_
  refine AW.seq ?_
  refine zf ?_
  refine AW.exit ?_
  refine kH [.no, .no] True [(4, oV 1 0 q 1)] [(1, some (38, .ds (kI o)))] 2 trivial ?_
  refine AW.freeze 1 (l' := [(4, qC (kI o) q)]) (g' := []) rfl (FzS.cons rfl (.e (.c (@FzC.own 1 ((kI o) : List D) 0 q 1 true ((kI o) : List D) zW eP))) FzS.nil) FzG.nil ?_
  have hz1 : uS a b n = o := by have h9 := ho; rw [show i = n by omega] at h9; exact h9
  refine AW.ret ?_
  exact kA (.inr rfl) [] (P := (((kI (uS a b n)) : List D) = (kI o)) ∧ (((ka0 (uS a b n)) : Nat) = q)) zk ⟨(by (rw [hz1]; done)), (by (rw [hz1]; omega))⟩
abbrev c8 (k : Int) (r : List Int) (rn : Nat) (m : List (List Int)) (c : Nat) (s : List Int) (sn : Nat) : BC := .ds [iD k, D.sl (dI .i64 r) rn, D.sl (kI m) c, D.sl (dI .i64 s) sn]
abbrev c7 (k2 : Int) (r2 : List Int) (rn2 : Nat) (m2 : List (List Int)) (c2 : Nat) (s2 : List Int) (sn2 : Nat) : BC := .ds [iD k2, D.sl (dI .i64 r2) rn2, D.sl (kI m2) c2, D.sl (dI .i64 s2) sn2]
theorem v6p (k : Int) (r : List Int) (rn : Nat) (m : List (List Int)) (c : Nat) (s : List Int) (sn : Nat) (k2 : Int) (r2 : List Int) (rn2 : Nat) (m2 : List (List Int)) (c2 : Nat) (s2 : List Int) (sn2 : Nat) (hr : ka0 r = rn * 2) (hs : ka0 s = sn * 2) (hc : ka0 m = c) (h1 : rn ≤ 1000000) (h2 : sn ≤ 1000000) (h3 : c ≤ 1000000) (hW : MsW m) (hr2 : ka0 r2 = rn2 * 2) (hs2 : ka0 s2 = sn2 * 2) (hc2 : ka0 m2 = c2) (h12 : rn2 ≤ 1000000) (h22 : sn2 ≤ 1000000) (h32 : c2 ≤ 1000000) (hW2 : MsW m2) : Fun 135 [.agg [iC k, .d (D.sl (dI .i64 r) rn), .d (D.sl (kI m) c), .d (D.sl (dI .i64 s) sn)], .agg [iC k2, .d (D.sl (dI .i64 r2) rn2), .d (D.sl (kI m2) c2), .d (D.sl (dI .i64 s2) sn2)]] (kF []) 0 (iV (tU k r rn m c s sn k2 r2 rn2 m2 s2 sn2)) (kF []) 0 := by
 refine Fun.mk (n := 44) Tryz.func135 rfl rfl (ka4 rfl) ?_
 intro cx hcx
 refine kH [.no, .no, .no] True [(2, rV 0 0), (3, rV 1 0)] [(0, some (63, (c8 k r rn m c s sn))), (1, some (63, (c7 k2 r2 rn2 m2 c2 s2 sn2)))] 2 trivial ?_
 refine kS [.no] True [(2, rV 0 0), (3, rV 1 0), (5, iV 0)] trivial ?_
 refine vZ hcx [(2, rV 0 0), (3, rV 1 0), (5, iV (yQ k k2))] [(0, some (63, (c8 k r rn m c s sn))), (1, some (63, (c7 k2 r2 rn2 m2 c2 s2 sn2)))] 2 ?_ ?_
 ·by_cases hx2 : ((qG k k2) ≠ 0)
  ·have hx3 : (qG k k2 = 0 ∧ yQ k k2 = 0) ∨ (¬ qG k k2 = 0 ∧ yQ k k2 = 1) := j9 _ _
   refine kH (qE 4 [.i (qG k k2), .b true]) ((qF .and .i64 k k2 = (qG k k2)) ∧ (((qG k k2) ≠ 0))) [(2, rV 0 0), (3, rV 1 0), (5, iV 0), (11, bV true)] [(0, some (63, (c8 k r rn m c s sn))), (1, some (63, (c7 k2 r2 rn2 m2 c2 s2 sn2)))] 2 ⟨rfl, zo⟩ ?_
   refine zt ?_
   refine yA [.no, .i 1, .no] (qF .or .i64 0 1 = 1) [(2, rV 0 0), (3, rV 1 0), (5, iV 1)] (by decide) ?_
   exact kW () [] (P := (kG 0) ∧ (kG 0) ∧ (((yQ k k2) : Int) = 1) ∧ (kJ [iD k, dl r rn, D.sl (kI m) c, dl s sn]) ∧ (kJ [iD k2, dl r2 rn2, D.sl (kI m2) c2, dl s2 sn2])) zk ⟨rfl, rfl, zo, rfl, rfl⟩ True.intro
  ·have hx4 : (qG k k2 = 0 ∧ yQ k k2 = 0) ∨ (¬ qG k k2 = 0 ∧ yQ k k2 = 1) := j9 _ _
   refine kH (qE 4 [.i (qG k k2), .b false]) ((qF .and .i64 k k2 = (qG k k2)) ∧ (¬ ((qG k k2) ≠ 0))) [(2, rV 0 0), (3, rV 1 0), (5, iV 0), (11, bV false)] [(0, some (63, (c8 k r rn m c s sn))), (1, some (63, (c7 k2 r2 rn2 m2 c2 s2 sn2)))] 2 ⟨rfl, zo⟩ ?_
   refine uO ?_
   exact kW () [] (P := (kG 0) ∧ (kG 0) ∧ (((yQ k k2) : Int) = 0) ∧ (kJ [iD k, dl r rn, D.sl (kI m) c, dl s sn]) ∧ (kJ [iD k2, dl r2 rn2, D.sl (kI m2) c2, dl s2 sn2])) zk ⟨rfl, rfl, zo, rfl, rfl⟩ True.intro
 ·refine vZ hcx [(2, rV 0 0), (3, rV 1 0), (5, iV (oS (yQ k k2) (qK (kB r rn) (kB r2 rn2)) 2))] [(0, some (63, (c8 k r rn m c s sn))), (1, some (63, (c7 k2 r2 rn2 m2 c2 s2 sn2)))] 2 ?_ ?_
  ·by_cases hx9 : ((0 : Int) < (((qK (kB r rn) (kB r2 rn2)) : Nat) : Int))
   ·have hx10 : ((qK (kB r rn) (kB r2 rn2) : Nat) = 0 ∧ oS (yQ k k2) (qK (kB r rn) (kB r2 rn2)) 2 = yQ k k2) ∨ (1 ≤ qK (kB r rn) (kB r2 rn2) ∧ oS (yQ k k2) (qK (kB r rn) (kB r2 rn2)) 2 = yQ k k2 + 2) := lN _ _ _
    have hx11 : 0 ≤ yQ k k2 ∧ yQ k k2 ≤ 1 := (by have h9 := j9 k k2; omega)
    have hx12 : ((ka0 (uF (kB r rn) (kB r2 rn2))) = ((qK (kB r rn) (kB r2 rn2)) * 2)) := uR _ _
    have hx13 : ((qK (kB r rn) (kB r2 rn2)) ≤ 64) := v9 _ _
    refine kH (qE 4 [.call [] (.e (.agg [.d (dl (uF (kB r rn) (kB r2 rn2)) (qK (kB r rn) (kB r2 rn2)))])) [] 0 [] none, .no, .no, .b true]) ((_) ∧ (((0 : Int) < (qK (kB r rn) (kB r2 rn2) : Int)))) [(2, rV 0 0), (3, rV 1 0), (5, iV (yQ k k2)), (21, bV true)] [(0, some (63, (c8 k r rn m c s sn))), (1, some (63, (c7 k2 r2 rn2 m2 c2 s2 sn2)))] 2 ⟨(f0 r r2 rn rn2 zo zo zo zo), zo⟩ ?_
    refine zt ?_
    refine yA [.no, .i ((yQ k k2) + 2), .no] (qF .or .i64 (yQ k k2) 2 = ((yQ k k2) + 2)) [(2, rV 0 0), (3, rV 1 0), (5, iV ((yQ k k2) + 2))] (v4w zo) ?_
    exact kW () [] (P := (kG 0) ∧ (kG 0) ∧ (((oS (yQ k k2) (qK (kB r rn) (kB r2 rn2)) 2) : Int) = ((yQ k k2) + 2)) ∧ (kJ [iD k, dl r rn, D.sl (kI m) c, dl s sn]) ∧ (kJ [iD k2, dl r2 rn2, D.sl (kI m2) c2, dl s2 sn2])) zk ⟨rfl, rfl, zo, rfl, rfl⟩ True.intro
   ·have hx14 : ((qK (kB r rn) (kB r2 rn2) : Nat) = 0 ∧ oS (yQ k k2) (qK (kB r rn) (kB r2 rn2)) 2 = yQ k k2) ∨ (1 ≤ qK (kB r rn) (kB r2 rn2) ∧ oS (yQ k k2) (qK (kB r rn) (kB r2 rn2)) 2 = yQ k k2 + 2) := lN _ _ _
    have hx15 : 0 ≤ yQ k k2 ∧ yQ k k2 ≤ 1 := (by have h9 := j9 k k2; omega)
    have hx16 : ((ka0 (uF (kB r rn) (kB r2 rn2))) = ((qK (kB r rn) (kB r2 rn2)) * 2)) := uR _ _
    have hx17 : ((qK (kB r rn) (kB r2 rn2)) ≤ 64) := v9 _ _
    refine kH (qE 4 [.call [] (.e (.agg [.d (dl (uF (kB r rn) (kB r2 rn2)) (qK (kB r rn) (kB r2 rn2)))])) [] 0 [] none, .no, .no, .b false]) ((_) ∧ (¬ ((0 : Int) < (qK (kB r rn) (kB r2 rn2) : Int)))) [(2, rV 0 0), (3, rV 1 0), (5, iV (yQ k k2)), (21, bV false)] [(0, some (63, (c8 k r rn m c s sn))), (1, some (63, (c7 k2 r2 rn2 m2 c2 s2 sn2)))] 2 ⟨(f0 r r2 rn rn2 zo zo zo zo), zo⟩ ?_
    refine uO ?_
    exact kW () [] (P := (kG 0) ∧ (kG 0) ∧ (((oS (yQ k k2) (qK (kB r rn) (kB r2 rn2)) 2) : Int) = (yQ k k2)) ∧ (kJ [iD k, dl r rn, D.sl (kI m) c, dl s sn]) ∧ (kJ [iD k2, dl r2 rn2, D.sl (kI m2) c2, dl s2 sn2])) zk ⟨rfl, rfl, zo, rfl, rfl⟩ True.intro
  ·refine vZ hcx [(2, rV 0 0), (3, rV 1 0), (5, iV (oS (oS (yQ k k2) (qK (kB r rn) (kB r2 rn2)) 2) (ka0 (uS m m2 c)) 4))] [(0, some (63, (c8 k r rn m c s sn))), (1, some (63, (c7 k2 r2 rn2 m2 c2 s2 sn2)))] 2 ?_ ?_
   ·by_cases hx21 : ((0 : Int) < (((ka0 (uS m m2 c)) : Nat) : Int))
    ·have hx22 : ((ka0 (uS m m2 c) : Nat) = 0 ∧ oS (oS (yQ k k2) (qK (kB r rn) (kB r2 rn2)) 2) (ka0 (uS m m2 c)) 4 = oS (yQ k k2) (qK (kB r rn) (kB r2 rn2)) 2) ∨ (1 ≤ ka0 (uS m m2 c) ∧ oS (oS (yQ k k2) (qK (kB r rn) (kB r2 rn2)) 2) (ka0 (uS m m2 c)) 4 = oS (yQ k k2) (qK (kB r rn) (kB r2 rn2)) 2 + 4) := lN _ _ _
     have hx23 : 0 ≤ oS (yQ k k2) (qK (kB r rn) (kB r2 rn2)) 2 ∧ oS (yQ k k2) (qK (kB r rn) (kB r2 rn2)) 2 ≤ 3 := (by have h9 := j9 k k2; have h8 := lN (yQ k k2) (qK (kB r rn) (kB r2 rn2)) 2; omega)
     have hx24 : ((ka0 (uS m m2 c)) ≤ c) := cN m m2 c
     refine kH (qE 4 [.call [] (qC (kI (uS m m2 c)) (ka0 (uS m m2 c))) [] 0 [] none, .no, .b true]) ((_) ∧ (((0 : Int) < (ka0 (uS m m2 c) : Int)))) [(2, rV 0 0), (3, rV 1 0), (5, iV (oS (yQ k k2) (qK (kB r rn) (kB r2 rn2)) 2)), (30, bV true)] [(0, some (63, (c8 k r rn m c s sn))), (1, some (63, (c7 k2 r2 rn2 m2 c2 s2 sn2)))] 2 ⟨(k4t m m2 c c2 zo zo zo zo (qD : MsW m) (qD : MsW m2)), zo⟩ ?_
     refine zt ?_
     refine yA [.no, .i ((oS (yQ k k2) (qK (kB r rn) (kB r2 rn2)) 2) + 4), .no] (qF .or .i64 (oS (yQ k k2) (qK (kB r rn) (kB r2 rn2)) 2) 4 = ((oS (yQ k k2) (qK (kB r rn) (kB r2 rn2)) 2) + 4)) [(2, rV 0 0), (3, rV 1 0), (5, iV ((oS (yQ k k2) (qK (kB r rn) (kB r2 rn2)) 2) + 4))] (v4v zo) ?_
     exact kW () [] (P := (kG 0) ∧ (kG 0) ∧ (((oS (oS (yQ k k2) (qK (kB r rn) (kB r2 rn2)) 2) (ka0 (uS m m2 c)) 4) : Int) = ((oS (yQ k k2) (qK (kB r rn) (kB r2 rn2)) 2) + 4)) ∧ (kJ [iD k, dl r rn, D.sl (kI m) c, dl s sn]) ∧ (kJ [iD k2, dl r2 rn2, D.sl (kI m2) c2, dl s2 sn2])) zk ⟨rfl, rfl, zo, rfl, rfl⟩ True.intro
    ·have hx25 : ((ka0 (uS m m2 c) : Nat) = 0 ∧ oS (oS (yQ k k2) (qK (kB r rn) (kB r2 rn2)) 2) (ka0 (uS m m2 c)) 4 = oS (yQ k k2) (qK (kB r rn) (kB r2 rn2)) 2) ∨ (1 ≤ ka0 (uS m m2 c) ∧ oS (oS (yQ k k2) (qK (kB r rn) (kB r2 rn2)) 2) (ka0 (uS m m2 c)) 4 = oS (yQ k k2) (qK (kB r rn) (kB r2 rn2)) 2 + 4) := lN _ _ _
     have hx26 : 0 ≤ oS (yQ k k2) (qK (kB r rn) (kB r2 rn2)) 2 ∧ oS (yQ k k2) (qK (kB r rn) (kB r2 rn2)) 2 ≤ 3 := (by have h9 := j9 k k2; have h8 := lN (yQ k k2) (qK (kB r rn) (kB r2 rn2)) 2; omega)
     have hx27 : ((ka0 (uS m m2 c)) ≤ c) := cN m m2 c
     refine kH (qE 4 [.call [] (qC (kI (uS m m2 c)) (ka0 (uS m m2 c))) [] 0 [] none, .no, .b false]) ((_) ∧ (¬ ((0 : Int) < (ka0 (uS m m2 c) : Int)))) [(2, rV 0 0), (3, rV 1 0), (5, iV (oS (yQ k k2) (qK (kB r rn) (kB r2 rn2)) 2)), (30, bV false)] [(0, some (63, (c8 k r rn m c s sn))), (1, some (63, (c7 k2 r2 rn2 m2 c2 s2 sn2)))] 2 ⟨(k4t m m2 c c2 zo zo zo zo (qD : MsW m) (qD : MsW m2)), zo⟩ ?_
     refine uO ?_
     exact kW () [] (P := (kG 0) ∧ (kG 0) ∧ (((oS (oS (yQ k k2) (qK (kB r rn) (kB r2 rn2)) 2) (ka0 (uS m m2 c)) 4) : Int) = (oS (yQ k k2) (qK (kB r rn) (kB r2 rn2)) 2)) ∧ (kJ [iD k, dl r rn, D.sl (kI m) c, dl s sn]) ∧ (kJ [iD k2, dl r2 rn2, D.sl (kI m2) c2, dl s2 sn2])) zk ⟨rfl, rfl, zo, rfl, rfl⟩ True.intro
   ·refine vZ hcx [(5, iV (oS (oS (oS (yQ k k2) (qK (kB r rn) (kB r2 rn2)) 2) (ka0 (uS m m2 c)) 4) (qK (kB s sn) (kB s2 sn2)) 8))] [] 2 ?_ ?_
    ·by_cases hx32 : ((0 : Int) < (((qK (kB s sn) (kB s2 sn2)) : Nat) : Int))
     ·have hx33 : ((qK (kB s sn) (kB s2 sn2) : Nat) = 0 ∧ oS (oS (oS (yQ k k2) (qK (kB r rn) (kB r2 rn2)) 2) (ka0 (uS m m2 c)) 4) (qK (kB s sn) (kB s2 sn2)) 8 = oS (oS (yQ k k2) (qK (kB r rn) (kB r2 rn2)) 2) (ka0 (uS m m2 c)) 4) ∨ (1 ≤ qK (kB s sn) (kB s2 sn2) ∧ oS (oS (oS (yQ k k2) (qK (kB r rn) (kB r2 rn2)) 2) (ka0 (uS m m2 c)) 4) (qK (kB s sn) (kB s2 sn2)) 8 = oS (oS (yQ k k2) (qK (kB r rn) (kB r2 rn2)) 2) (ka0 (uS m m2 c)) 4 + 8) := lN _ _ _
      have hx34 : 0 ≤ oS (oS (yQ k k2) (qK (kB r rn) (kB r2 rn2)) 2) (ka0 (uS m m2 c)) 4 ∧ oS (oS (yQ k k2) (qK (kB r rn) (kB r2 rn2)) 2) (ka0 (uS m m2 c)) 4 ≤ 7 := (by have h9 := j9 k k2; have h8 := lN (yQ k k2) (qK (kB r rn) (kB r2 rn2)) 2; have h7 := lN (oS (yQ k k2) (qK (kB r rn) (kB r2 rn2)) 2) (ka0 (uS m m2 c)) 4; omega)
      have hx35 : ((ka0 (uF (kB s sn) (kB s2 sn2))) = ((qK (kB s sn) (kB s2 sn2)) * 2)) := uR _ _
      have hx36 : ((qK (kB s sn) (kB s2 sn2)) ≤ 64) := v9 _ _
      refine kH (qE 4 [.call [] (.e (.agg [.d (dl (uF (kB s sn) (kB s2 sn2)) (qK (kB s sn) (kB s2 sn2)))])) [] 0 [] none, .no, .no, .b true]) ((_) ∧ (((0 : Int) < (qK (kB s sn) (kB s2 sn2) : Int)))) [(5, iV (oS (oS (yQ k k2) (qK (kB r rn) (kB r2 rn2)) 2) (ka0 (uS m m2 c)) 4)), (40, bV true)] [] 2 ⟨(f0 s s2 sn sn2 zo zo zo zo), zo⟩ ?_
      refine zt ?_
      refine yA [.no, .i ((oS (oS (yQ k k2) (qK (kB r rn) (kB r2 rn2)) 2) (ka0 (uS m m2 c)) 4) + 8), .no] (qF .or .i64 (oS (oS (yQ k k2) (qK (kB r rn) (kB r2 rn2)) 2) (ka0 (uS m m2 c)) 4) 8 = ((oS (oS (yQ k k2) (qK (kB r rn) (kB r2 rn2)) 2) (ka0 (uS m m2 c)) 4) + 8)) [(5, iV ((oS (oS (yQ k k2) (qK (kB r rn) (kB r2 rn2)) 2) (ka0 (uS m m2 c)) 4) + 8))] (v4u zo) ?_
      exact kW () [] (P := (((oS (oS (oS (yQ k k2) (qK (kB r rn) (kB r2 rn2)) 2) (ka0 (uS m m2 c)) 4) (qK (kB s sn) (kB s2 sn2)) 8) : Int) = ((oS (oS (yQ k k2) (qK (kB r rn) (kB r2 rn2)) 2) (ka0 (uS m m2 c)) 4) + 8))) zk zo True.intro
     ·have hx37 : ((qK (kB s sn) (kB s2 sn2) : Nat) = 0 ∧ oS (oS (oS (yQ k k2) (qK (kB r rn) (kB r2 rn2)) 2) (ka0 (uS m m2 c)) 4) (qK (kB s sn) (kB s2 sn2)) 8 = oS (oS (yQ k k2) (qK (kB r rn) (kB r2 rn2)) 2) (ka0 (uS m m2 c)) 4) ∨ (1 ≤ qK (kB s sn) (kB s2 sn2) ∧ oS (oS (oS (yQ k k2) (qK (kB r rn) (kB r2 rn2)) 2) (ka0 (uS m m2 c)) 4) (qK (kB s sn) (kB s2 sn2)) 8 = oS (oS (yQ k k2) (qK (kB r rn) (kB r2 rn2)) 2) (ka0 (uS m m2 c)) 4 + 8) := lN _ _ _
      have hx38 : 0 ≤ oS (oS (yQ k k2) (qK (kB r rn) (kB r2 rn2)) 2) (ka0 (uS m m2 c)) 4 ∧ oS (oS (yQ k k2) (qK (kB r rn) (kB r2 rn2)) 2) (ka0 (uS m m2 c)) 4 ≤ 7 := (by have h9 := j9 k k2; have h8 := lN (yQ k k2) (qK (kB r rn) (kB r2 rn2)) 2; have h7 := lN (oS (yQ k k2) (qK (kB r rn) (kB r2 rn2)) 2) (ka0 (uS m m2 c)) 4; omega)
      have hx39 : ((ka0 (uF (kB s sn) (kB s2 sn2))) = ((qK (kB s sn) (kB s2 sn2)) * 2)) := uR _ _
      have hx40 : ((qK (kB s sn) (kB s2 sn2)) ≤ 64) := v9 _ _
      refine kH (qE 4 [.call [] (.e (.agg [.d (dl (uF (kB s sn) (kB s2 sn2)) (qK (kB s sn) (kB s2 sn2)))])) [] 0 [] none, .no, .no, .b false]) ((_) ∧ (¬ ((0 : Int) < (qK (kB s sn) (kB s2 sn2) : Int)))) [(5, iV (oS (oS (yQ k k2) (qK (kB r rn) (kB r2 rn2)) 2) (ka0 (uS m m2 c)) 4)), (40, bV false)] [] 2 ⟨(f0 s s2 sn sn2 zo zo zo zo), zo⟩ ?_
      refine uO ?_
      exact kW () [] (P := (((oS (oS (oS (yQ k k2) (qK (kB r rn) (kB r2 rn2)) 2) (ka0 (uS m m2 c)) 4) (qK (kB s sn) (kB s2 sn2)) 8) : Int) = (oS (oS (yQ k k2) (qK (kB r rn) (kB r2 rn2)) 2) (ka0 (uS m m2 c)) 4))) zk zo True.intro
    ·refine kH [.no, .no] True [(4, iV (oS (oS (oS (yQ k k2) (qK (kB r rn) (kB r2 rn2)) 2) (ka0 (uS m m2 c)) 4) (qK (kB s sn) (kB s2 sn2)) 8))] [] 2 trivial ?_
     refine AW.ret ?_
     exact kA (.inr rfl) [] (P := (((tU k r rn m c s sn k2 r2 rn2 m2 s2 sn2) : Int) = (oS (oS (oS (yQ k k2) (qK (kB r rn) (kB r2 rn2)) 2) (ka0 (uS m m2 c)) 4) (qK (kB s sn) (kB s2 sn2)) 8))) zk (by rfl)
theorem v3m (l : List Int) (n : Nat) (v : Int) (hn : ka0 l = n) (h1 : n ≤ 1000000) : Fun 136 [.c (.d (D.sl (dI .i64 l) n)), iE v] (kF []) 0 (uW (D.lit (.bool (ctB l n v)))) (kF []) 0 := by
 refine Fun.mk (n := 9) Tryz.func136 rfl rfl (ka4 rfl) ?_
 intro cx hcx
 refine kH [.no] True [(0, sV .i64 l n), (1, iV v)] [] 0 trivial ?_
 by_cases hx2 : ((0 : Int) ≤ (uH l v n))
 ·have hx3 : ((((-1) : Int) ≤ (uH l v n)) ∧ ((uH l v n) < ((n : Nat) : Int))) := bG l v n
  refine kS [.no, .no, .call [] (iV (uH l v n)) [] 0 [] none, .b true, .no] ((_) ∧ (((0 : Int) ≤ (uH l v n)))) [(4, bV true)] ⟨(nQ l n v zo zo), zo⟩ ?_
  refine AW.ret ?_
  exact kA (.inr rfl) [] (P := ((ctB l n v) = true)) zk (by exact decide_eq_true zo)
 ·have hx4 : ((((-1) : Int) ≤ (uH l v n)) ∧ ((uH l v n) < ((n : Nat) : Int))) := bG l v n
  refine kS [.no, .no, .call [] (iV (uH l v n)) [] 0 [] none, .b false, .no] ((_) ∧ (¬ ((0 : Int) ≤ (uH l v n)))) [(4, bV false)] ⟨(nQ l n v zo zo), zo⟩ ?_
  refine AW.ret ?_
  exact kA (.inr rfl) [] (P := ((ctB l n v) = false)) zk (by exact decide_eq_false zo)
theorem u6f (d s : Int)  : Fun 137 [iE d, .c (.ptr 0 0)] (kF [(0, some (3, .ds [iD s]))]) 1 (uW (D.lit (.bool (stB d s)))) (kF [(0, some (3, .ds [iD s]))]) 1 := by
 refine Fun.mk (n := 9) Tryz.func137 rfl rfl (ka4 rfl) ?_
 intro cx hcx
 refine kH [.no] True [(0, iV d), (1, rV 0 0)] [(0, some (3, .ds [iD s]))] 1 trivial ?_
 by_cases hx1 : ((qG d s) = s)
 ·refine kS [.no, .no, .i (qG d s), .no, .b true, .no] ((qF .and .i64 d s = (qG d s)) ∧ (((qG d s) = s))) [(3, bV true)] ⟨rfl, zo⟩ ?_
  refine AW.ret ?_
  exact kA (.inr rfl) [] (P := ((stB d s) = true) ∧ (kJ [iD s])) zk ⟨(by exact decide_eq_true zo), rfl⟩
 ·refine kS [.no, .no, .i (qG d s), .no, .b false, .no] ((qF .and .i64 d s = (qG d s)) ∧ (¬ ((qG d s) = s))) [(3, bV false)] ⟨rfl, zo⟩ ?_
  refine AW.ret ?_
  exact kA (.inr rfl) [] (P := ((stB d s) = false) ∧ (kJ [iD s])) zk ⟨(by exact decide_eq_false zo), rfl⟩
theorem u6e (l : List Int) (n : Nat) (s : Int) (hn : ka0 l = n) (h1 : n ≤ 1000000) : Fun 100 [.c (.d (D.sl (dI .i64 l) n)), .c (.fn 137 [(0, 0)])] (kF [(0, some (3, .ds [iD s]))]) 1 (iV (lB l s n)) (kF [(0, some (3, .ds [iD s]))]) 1 := by
 refine Fun.mk (n := 19) Tryz.func100 rfl rfl (ka4 rfl) ?_
 intro cx hcx
 refine kH [.no] True [(0, sV .i64 l n), (1, .e (.c (.fn 137 [(0, 0)])))] [(0, some (3, .ds [iD s]))] 1 trivial ?_
 refine AW.seq ?_
 refine kS [.no, .no, .no] True [(0, sV .i64 l n), (1, .e (.c (.fn 137 [(0, 0)]))), (7, uV n), (8, iV 0)] trivial ?_
 refine AW.block ?_
 refine k8 1 hcx (fun (x : {x : Nat // match x with | k => (k ≤ n) ∧ (lB l s k = -1)}) => match x with | ⟨k, _⟩ => (⟨[(0, sV .i64 l n), (1, .e (.c (.fn 137 [(0, 0)]))), (7, uV n), (8, uV k)], [(0, some (3, .ds [iD s]))], 1⟩ : ES)) (fun x => match x with | ⟨k, _⟩ => n - k) ⟨(0 : Nat), ⟨zo, rfl⟩⟩ [] (P := (kJ (dI .i64 l)) ∧ (kG n) ∧ (kM (n : Int)) ∧ (kM 0) ∧ (kJ [iD s])) zk ⟨rfl, rfl, rfl, rfl, rfl⟩ ?_
 rintro ⟨k, hinv0⟩
 obtain ⟨hk, hi⟩ : (k ≤ n) ∧ (lB l s k = -1) := hinv0
 refine qW (l := [(0, sV .i64 l n), (1, .e (.c (.fn 137 [(0, 0)]))), (7, uV n), (8, uV k)]) (g := [(0, some (3, .ds [iD s]))]) (nx := 1) rfl rfl rfl ?_
 by_cases hx1 : (((k : Nat) : Int) < ((n : Nat) : Int))
 ·refine kH [.b true] (((k : Int) < (n : Int))) [(0, sV .i64 l n), (1, .e (.c (.fn 137 [(0, 0)]))), (7, uV n), (8, uV k), (9, bV true)] [(0, some (3, .ds [iD s]))] 1 zo ?_
  refine AW.seq ?_
  refine vL ?_
  refine AW.seq ?_
  refine AW.block ?_
  refine kS [.no, .no] True [(0, sV .i64 l n), (1, .e (.c (.fn 137 [(0, 0)]))), (5, uV k), (7, uV n), (8, uV k)] trivial ?_
  rcases ka9 (stB (ka1 l k 0) s) with hx2 | hx2
  ·refine kS [.no, .no, .no, .n k, .d (D.lit (.int .i64 (ka1 l k 0))), .call [0] (bV true) [(0, some (3, .ds [iD s]))] 1 [] none] ((kM (k : Int)) ∧ (k < n) ∧ ((ka3 k (dI .i64 l))[0]? = some (D.lit (.int .i64 (ka1 l k 0)))) ∧ (Fun 137 [iE (ka1 l k 0), .c (.ptr 0 0)] (kF [(0, some (3, .ds [iD s]))]) 1 (bV true) (kF [(0, some (3, .ds [iD s]))]) 1)) [(0, sV .i64 l n), (1, .e (.c (.fn 137 [(0, 0)]))), (5, uV k), (7, uV n), (8, uV k), (16, bV true)] ⟨rfl, zo, (yF _ _ _ zo), (by have h0 := (u6f (ka1 l k 0) s); rw [hx2] at h0; exact h0)⟩ ?_
   refine zt ?_
   refine kS [.no, .no] True [(4, uV k)] trivial ?_
   refine AW.ret ?_
   exact kA (.inr rfl) [] (P := (((lB l s n) : Int) = (k : Int)) ∧ (kJ [iD s])) zk ⟨(by exact u4u hi (by assumption) zo), rfl⟩
  ·refine kS [.no, .no, .no, .n k, .d (D.lit (.int .i64 (ka1 l k 0))), .call [0] (bV false) [(0, some (3, .ds [iD s]))] 1 [] none] ((kM (k : Int)) ∧ (k < n) ∧ ((ka3 k (dI .i64 l))[0]? = some (D.lit (.int .i64 (ka1 l k 0)))) ∧ (Fun 137 [iE (ka1 l k 0), .c (.ptr 0 0)] (kF [(0, some (3, .ds [iD s]))]) 1 (bV false) (kF [(0, some (3, .ds [iD s]))]) 1)) [(0, sV .i64 l n), (1, .e (.c (.fn 137 [(0, 0)]))), (5, uV k), (7, uV n), (8, uV k), (16, bV false)] ⟨rfl, zo, (yF _ _ _ zo), (by have h0 := (u6f (ka1 l k 0) s); rw [hx2] at h0; exact h0)⟩ ?_
   refine uO ?_
   refine yA [.w, .no] (u3 ((k : Int) + 1)) [(0, sV .i64 l n), (1, .e (.c (.fn 137 [(0, 0)]))), (7, uV n), (8, iV (↑k + 1))] ⟨by omega, by omega⟩ ?_
   exact kW ⟨((k + 1) : Nat), ⟨zo, (u4t hi (by assumption))⟩⟩ [] (P := (kJ (dI .i64 l)) ∧ (kG n) ∧ (kM (n : Int)) ∧ (bU k) ∧ (kJ [iD s])) zk ⟨rfl, rfl, rfl, (by rfl), rfl⟩ (show n - (k + 1) < n - k from zo)
 ·refine kH [.b false] (¬ ((k : Int) < (n : Int))) [(0, sV .i64 l n), (1, .e (.c (.fn 137 [(0, 0)]))), (7, uV n), (8, uV k), (9, bV false)] [(0, some (3, .ds [iD s]))] 1 zo ?_
  refine AW.seq ?_
  refine zf ?_
  refine AW.exit ?_
  refine kH [.no] True [(4, iV (-1))] [(0, some (3, .ds [iD s]))] 1 trivial ?_
  refine AW.ret ?_
  exact kA (.inr rfl) [] (P := (((lB l s n) : Int) = (-1)) ∧ (kJ [iD s])) zk ⟨(by (rw [show n = k by omega]; exact hi)), rfl⟩
theorem u9a (l : List Int) (n : Nat) (s : Int) (hn : ka0 l = n) (h1 : n ≤ 1000000) : Fun 66 [.c (.d (D.sl (dI .i64 l) n)), .c (.fn 137 [(0, 0)])] (kF [(0, some (3, .ds [iD s]))]) 1 (uW (D.lit (.bool (jD l n s)))) (kF [(0, some (3, .ds [iD s]))]) 1 := by
 refine Fun.mk (n := 9) Tryz.func66 rfl rfl (ka4 rfl) ?_
 intro cx hcx
 refine kH [.no] True [(0, sV .i64 l n), (1, .e (.c (.fn 137 [(0, 0)])))] [(0, some (3, .ds [iD s]))] 1 trivial ?_
 by_cases hx1 : ((0 : Int) ≤ (lB l s n))
 ·refine kS [.no, .no, .call [0] (iV (lB l s n)) [(0, some (3, .ds [iD s]))] 1 [] none, .b true, .no] ((_) ∧ (((0 : Int) ≤ (lB l s n)))) [(4, bV true)] ⟨(u6e l n s zo zo), zo⟩ ?_
  refine AW.ret ?_
  exact kA (.inr rfl) [] (P := ((jD l n s) = true) ∧ (kJ [iD s])) zk ⟨(by exact decide_eq_true zo), rfl⟩
 ·refine kS [.no, .no, .call [0] (iV (lB l s n)) [(0, some (3, .ds [iD s]))] 1 [] none, .b false, .no] ((_) ∧ (¬ ((0 : Int) ≤ (lB l s n)))) [(4, bV false)] ⟨(u6e l n s zo zo), zo⟩ ?_
  refine AW.ret ?_
  exact kA (.inr rfl) [] (P := ((jD l n s) = false) ∧ (kJ [iD s])) zk ⟨(by exact decide_eq_false zo), rfl⟩
theorem u99 (x : Int) (h1 : 0 ≤ x ∧ x ≤ 15) : Fun 102 [.c (.d (D.lit (.int .u64 x)))] (kF []) 0 (iV (uB x)) (kF []) 0 := by
 have hxr : (0 ≤ tX x ∧ tX x ≤ 5) ∧ (0 ≤ tW x ∧ tW x ≤ 5) ∧ (0 ≤ o9 x ∧ o9 x ≤ 2) ∧ (0 ≤ o8 x ∧ o8 x ≤ 2) ∧ 0 ≤ uB x ∧ uB x ≤ 4 := v4x h1
 refine Fun.mk (n := 35) Tryz.func102 rfl rfl (ka4 rfl) ?_
 intro cx hcx
 refine kH [.no] True [(0, uW (D.lit (.int .u64 x)))] [] 0 trivial ?_
 refine kS [.no, .n 1, .i (tX x), .no, .i (tW x), .w, .no] ((kM 1) ∧ ((1 : Nat) ≤ 64) ∧ (qF .and .u64 (x / 2) 6148914691236517205 = (tX x)) ∧ (qF .and .u64 x 6148914691236517205 = (tW x)) ∧ (0 ≤ ((tX x) + (tW x)) ∧ ((tX x) + (tW x)) ≤ 18446744073709551615)) [(0, uW (D.lit (.int .u64 ((tX x) + (tW x)))))] ⟨rfl, zo, (v53 h1), (v52 h1), ⟨by omega, by omega⟩⟩ ?_
 refine kS [.no, .n 2, .i (o9 x), .no, .i (o8 x), .w, .no] ((kM 2) ∧ ((2 : Nat) ≤ 64) ∧ (qF .and .u64 (((tX x) + (tW x)) / 4) 3689348814741910323 = (o9 x)) ∧ (qF .and .u64 ((tX x) + (tW x)) 3689348814741910323 = (o8 x)) ∧ (0 ≤ ((o9 x) + (o8 x)) ∧ ((o9 x) + (o8 x)) ≤ 18446744073709551615)) [(0, uW (D.lit (.int .u64 ((o9 x) + (o8 x)))))] ⟨rfl, zo, (v51 h1), (v50 h1), ⟨by omega, by omega⟩⟩ ?_
 refine kS [.no, .n 4, .no, .w, .i (uB x), .no] ((kM 4) ∧ ((4 : Nat) ≤ 64) ∧ (0 ≤ ((((o9 x) + (o8 x)) / 16) + ((o9 x) + (o8 x))) ∧ ((((o9 x) + (o8 x)) / 16) + ((o9 x) + (o8 x))) ≤ 18446744073709551615) ∧ (qF .and .u64 ((((o9 x) + (o8 x)) / 16) + ((o9 x) + (o8 x))) 1085102592571150095 = (uB x))) [(0, uW (D.lit (.int .u64 (uB x))))] ⟨rfl, zo, ⟨by omega, by omega⟩, (v4z h1 zo)⟩ ?_
 refine kS [.no, .no, .n 8, .w, .no] ((kM 8) ∧ ((8 : Nat) ≤ 64) ∧ (0 ≤ ((uB x) + ((uB x) / 256)) ∧ ((uB x) + ((uB x) / 256)) ≤ 18446744073709551615)) [(0, uW (D.lit (.int .u64 ((uB x) + ((uB x) / 256)))))] ⟨rfl, zo, ⟨by omega, by omega⟩⟩ ?_
 refine kS [.no, .no, .n 16, .w, .no] ((kM 16) ∧ ((16 : Nat) ≤ 64) ∧ (0 ≤ (((uB x) + ((uB x) / 256)) + (((uB x) + ((uB x) / 256)) / 65536)) ∧ (((uB x) + ((uB x) / 256)) + (((uB x) + ((uB x) / 256)) / 65536)) ≤ 18446744073709551615)) [(0, uW (D.lit (.int .u64 (((uB x) + ((uB x) / 256)) + (((uB x) + ((uB x) / 256)) / 65536)))))] ⟨rfl, zo, ⟨by omega, by omega⟩⟩ ?_
 refine kS [.no, .no, .n 32, .w, .no] ((kM 32) ∧ ((32 : Nat) ≤ 64) ∧ (0 ≤ ((((uB x) + ((uB x) / 256)) + (((uB x) + ((uB x) / 256)) / 65536)) + ((((uB x) + ((uB x) / 256)) + (((uB x) + ((uB x) / 256)) / 65536)) / 4294967296)) ∧ ((((uB x) + ((uB x) / 256)) + (((uB x) + ((uB x) / 256)) / 65536)) + ((((uB x) + ((uB x) / 256)) + (((uB x) + ((uB x) / 256)) / 65536)) / 4294967296)) ≤ 18446744073709551615)) [(0, uW (D.lit (.int .u64 ((((uB x) + ((uB x) / 256)) + (((uB x) + ((uB x) / 256)) / 65536)) + ((((uB x) + ((uB x) / 256)) + (((uB x) + ((uB x) / 256)) / 65536)) / 4294967296)))))] ⟨rfl, zo, ⟨by omega, by omega⟩⟩ ?_
 refine kS [.no, .w, .i (uB x), .no] (((-9223372036854775808) ≤ ((((uB x) + ((uB x) / 256)) + (((uB x) + ((uB x) / 256)) / 65536)) + ((((uB x) + ((uB x) / 256)) + (((uB x) + ((uB x) / 256)) / 65536)) / 4294967296)) ∧ ((((uB x) + ((uB x) / 256)) + (((uB x) + ((uB x) / 256)) / 65536)) + ((((uB x) + ((uB x) / 256)) + (((uB x) + ((uB x) / 256)) / 65536)) / 4294967296)) ≤ 9223372036854775807) ∧ (qF .and .i64 ((((uB x) + ((uB x) / 256)) + (((uB x) + ((uB x) / 256)) / 65536)) + ((((uB x) + ((uB x) / 256)) + (((uB x) + ((uB x) / 256)) / 65536)) / 4294967296)) 127 = (uB x))) [(2, iV (uB x))] ⟨⟨by omega, by omega⟩, (v4y h1 zo)⟩ ?_
 refine AW.ret ?_
 exact kA (.inr rfl) [] (P := (kM (uB x))) zk rfl
theorem x7 (x : Int) (h1 : 0 ≤ x ∧ x ≤ 15) : Fun 67 [.c (.d (D.lit (.int .u64 x)))] (kF []) 0 (iV (uB x)) (kF []) 0 := by
 refine Fun.mk (n := 8) Tryz.func67 rfl rfl (ka4 rfl) ?_
 intro cx hcx
 refine kH [.no] True [(0, uW (D.lit (.int .u64 x)))] [] 0 trivial ?_
 refine AW.seq ?_
 refine j7 (.lit rfl) ?_
 refine AW.skip ?_
 refine kS [.no, .call [] (iV (uB x)) [] 0 [] none, .no] _ [(2, iV (uB x))] (u99 x zo) ?_
 refine AW.ret ?_
 exact kA (.inr rfl) [] (P := (kM (uB x))) zk rfl
abbrev dT (a : List Bx) (i : Nat) : BC := .ds [iD (kQ (kK a) i), D.sl (dI .i64 (kY (kK a) i)) (kV (kK a) i), D.sl (kI (kT (kK a) i)) (ka0 (kT (kK a) i)), D.sl (dI .i64 (kX (kK a) i)) (kU (kK a) i)]
theorem cZ (a b : List Bx) (n m : Nat) (hn : ka0 a = n) (hm : ka0 b = m) (h1 : n ≤ 1000) (h2 : m ≤ 1000) (hW : BsW a) (hV : BsW b) : Fun 99 [.c (.d (D.sl (kN a) n)), .c (.d (D.sl (kN b) m))] (kF []) 0 (iV (vR a b)) (kF []) 0 := by
 have hL1 : ka0 (kK a) ≤ 64 ∧ ka0 (kK b) ≤ 64 := ⟨u06 a, u06 b⟩
 refine Fun.mk (n := 63) Tryz.func99 rfl rfl (ka4 rfl) ?_
 intro cx hcx
 refine kH [.no] True [(0, .e (k9 a n)), (1, .e (k9 b m))] [] 0 trivial ?_
 refine kS [.no] True [(0, .e (k9 a n)), (1, .e (k9 b m)), (5, nV)] trivial ?_
 refine AW.seq ?_
 have hx1 : ((ka0 (kK a)) ≤ n) := (by have h9 := j0 a; omega)
 refine kS [.no, .call [] (.e (yL (kK a))) [] 0 [] none, .no, .no] _ [(1, .e (k9 b m)), (5, nV), (14, .e (yL (kK a))), (15, uV (ka0 (kK a))), (16, iV 0)] (jA a n zo zo (qD : BsW a)) ?_
 refine AW.block ?_
 refine AW.adoptS 5 1 3 rfl ?_
 refine k8 0 hcx (fun (x : {x : Nat × Nat × List Int // match x with | (i, q, o) => (i ≤ ka0 (kK a)) ∧ (o4 (kK a) (kK b) i = o) ∧ (ka0 o = q) ∧ (q ≤ i * 64)}) => match x with | ⟨(i, q, o), _⟩ => (⟨[(1, .e (k9 b m)), (5, oV 1 0 q 1), (14, .e (yL (kK a))), (15, uV (ka0 (kK a))), (16, uV i)], [(1, some (3, .ds (dI .i64 o)))], 2⟩ : ES)) (fun x => match x with | ⟨(i, q, o), _⟩ => ka0 (kK a) - i) ⟨((0 : Nat), (0 : Nat), (([] : List Int) : List Int)), ⟨zo, rfl, rfl, zo⟩⟩ [(1, 0)] (P := (kJ (kN b)) ∧ (kG m) ∧ (kG 0) ∧ (kG 0) ∧ (kJ (kN (kK a))) ∧ (kG (ka0 (kK a))) ∧ (kM (ka0 (kK a) : Int)) ∧ (kM 0) ∧ (((dI .i64 ([] : List Int)) : List D) = ([] : List D))) zk ⟨rfl, rfl, rfl, rfl, rfl, rfl, rfl, rfl, (by rfl)⟩ ?_
 rintro ⟨⟨i, q, o⟩, hinv0⟩
 obtain ⟨hi, ho, hq, hqm⟩ : (i ≤ ka0 (kK a)) ∧ (o4 (kK a) (kK b) i = o) ∧ (ka0 o = q) ∧ (q ≤ i * 64) := hinv0
 refine qW (l := [(1, .e (k9 b m)), (5, oV 1 0 q 1), (14, .e (yL (kK a))), (15, uV (ka0 (kK a))), (16, uV i)]) (g := [(1, some (3, .ds (dI .i64 o)))]) (nx := 2) rfl rfl rfl ?_
 by_cases hx2 : (((i : Nat) : Int) < (((ka0 (kK a)) : Nat) : Int))
 ·refine kH [.b true] (((i : Int) < (ka0 (kK a) : Int))) [(1, .e (k9 b m)), (5, oV 1 0 q 1), (14, .e (yL (kK a))), (15, uV (ka0 (kK a))), (16, uV i), (17, bV true)] [(1, some (3, .ds (dI .i64 o)))] 2 zo ?_
  refine AW.seq ?_
  refine vL ?_
  refine AW.seq ?_
  refine AW.block ?_
  obtain ⟨hx3, hx4, hx5, hx6, hx7⟩ := BsW.at (dP (qD : BsW a)) (i)
  have hx8 : ((1 : Nat) ≤ (ka0 (kT (kK a) i))) := s9 zo
  refine kH [.n i, .ds (yI (kK a) i), .no, .no] ((kM (i : Int)) ∧ (i < (ka0 (kK a))) ∧ (List.take 4 (ka3 (i * 4) (kN (kK a))) = (yI (kK a) i)) ∧ (((yI (kK a) i) : List D).length = 4)) [(1, .e (k9 b m)), (5, oV 1 0 q 1), (7, rV 2 0), (14, .e (yL (kK a))), (15, uV (ka0 (kK a))), (16, uV i)] [(1, some (3, .ds (dI .i64 o))), (2, some (63, (dT a i)))] 3 ⟨rfl, zo, (vB zo), rfl⟩ ?_
  have hx9 : ((ka0 (kK b)) ≤ m) := (by have h9 := j0 b; omega)
  refine kS [.no, .call [] (.e (yL (kK b))) [] 0 [] none, .no, .no] _ [(1, .e (k9 b m)), (5, oV 1 0 q 1), (7, rV 2 0), (14, .e (yL (kK a))), (15, uV (ka0 (kK a))), (16, uV i), (21, .e (yL (kK b))), (22, uV (ka0 (kK b))), (23, iV 0)] (jA b m zo zo (qD : BsW b)) ?_
  refine AW.block ?_
  refine k8 0 hcx (fun (x : {x : Nat × Nat × List Int // match x with | (j, p, x) => (j ≤ ka0 (kK b)) ∧ (prJ (kK a) (kK b) i j = x) ∧ (ka0 x = p) ∧ (p ≤ i * 64 + j)}) => match x with | ⟨(j, p, x), _⟩ => (⟨[(1, .e (k9 b m)), (5, oV 3 0 p 1), (7, rV 2 0), (14, .e (yL (kK a))), (15, uV (ka0 (kK a))), (16, uV i), (21, .e (yL (kK b))), (22, uV (ka0 (kK b))), (23, uV j)], [(3, some (3, .ds (dI .i64 x))), (2, some (63, (dT a i)))], 4⟩ : ES)) (fun x => match x with | ⟨(j, p, x), _⟩ => ka0 (kK b) - j) ⟨((0 : Nat), (q : Nat), (o : List Int)), ⟨zo, (v13 ho), (by assumption), zo⟩⟩ [(3, 1)] (P := (kJ (kN b)) ∧ (kG m) ∧ (kG 0) ∧ (kG q) ∧ (kG 0) ∧ (kJ (kN (kK a))) ∧ (kG (ka0 (kK a))) ∧ (kM (ka0 (kK a) : Int)) ∧ (kM (i : Int)) ∧ (kJ (kN (kK b))) ∧ (kG (ka0 (kK b))) ∧ (kM (ka0 (kK b) : Int)) ∧ (kM 0) ∧ (kJ (dI .i64 o)) ∧ (kJ (yI (kK a) i))) zk ⟨rfl, rfl, rfl, rfl, rfl, rfl, rfl, rfl, rfl, rfl, rfl, rfl, rfl, rfl, rfl⟩ ?_
  rintro ⟨⟨j, p, x⟩, hinv1⟩
  obtain ⟨hj, hJ, hp, hpm⟩ : (j ≤ ka0 (kK b)) ∧ (prJ (kK a) (kK b) i j = x) ∧ (ka0 x = p) ∧ (p ≤ i * 64 + j) := hinv1
  refine qW (l := [(1, .e (k9 b m)), (5, oV 3 0 p 1), (7, rV 2 0), (14, .e (yL (kK a))), (15, uV (ka0 (kK a))), (16, uV i), (21, .e (yL (kK b))), (22, uV (ka0 (kK b))), (23, uV j)]) (g := [(3, some (3, .ds (dI .i64 x))), (2, some (63, (dT a i)))]) (nx := 4) rfl rfl rfl ?_
  by_cases hx10 : (((j : Nat) : Int) < (((ka0 (kK b)) : Nat) : Int))
  ·refine kH [.b true] (((j : Int) < (ka0 (kK b) : Int))) [(1, .e (k9 b m)), (5, oV 3 0 p 1), (7, rV 2 0), (14, .e (yL (kK a))), (15, uV (ka0 (kK a))), (16, uV i), (21, .e (yL (kK b))), (22, uV (ka0 (kK b))), (23, uV j), (24, bV true)] [(2, some (63, (dT a i))), (3, some (3, .ds (dI .i64 x)))] 4 zo ?_
   refine AW.seq ?_
   refine vL ?_
   refine AW.seq ?_
   refine AW.block ?_
   obtain ⟨hx11, hx12, hx13, hx14, hx15⟩ := BsW.at (dP (qD : BsW b)) (j)
   have hx16 : ((1 : Nat) ≤ (ka0 (kT (kK b) j))) := s9 zo
   refine kH [.n j, .ds (yI (kK b) j), .no, .no] ((kM (j : Int)) ∧ (j < (ka0 (kK b))) ∧ (List.take 4 (ka3 (j * 4) (kN (kK b))) = (yI (kK b) j)) ∧ (((yI (kK b) j) : List D).length = 4)) [(1, .e (k9 b m)), (5, oV 3 0 p 1), (7, rV 2 0), (9, rV 4 0), (14, .e (yL (kK a))), (15, uV (ka0 (kK a))), (16, uV i), (21, .e (yL (kK b))), (22, uV (ka0 (kK b))), (23, uV j)] [(2, some (63, (dT a i))), (3, some (3, .ds (dI .i64 x))), (4, some (63, .ds (yI (kK b) j)))] 5 ⟨rfl, zo, (vB zo), rfl⟩ ?_
   have hx17 : (((0 : Int) ≤ (tU (kQ (kK a) i) (kY (kK a) i) (kV (kK a) i) (kT (kK a) i) (ka0 (kT (kK a) i)) (kX (kK a) i) (kU (kK a) i) (kQ (kK b) j) (kY (kK b) j) (kV (kK b) j) (kT (kK b) j) (kX (kK b) j) (kU (kK b) j))) ∧ ((tU (kQ (kK a) i) (kY (kK a) i) (kV (kK a) i) (kT (kK a) i) (ka0 (kT (kK a) i)) (kX (kK a) i) (kU (kK a) i) (kQ (kK b) j) (kY (kK b) j) (kV (kK b) j) (kT (kK b) j) (kX (kK b) j) (kU (kK b) j)) ≤ 15)) := u1k ..
   refine aC [.no, .no, .no, .call [] (iV (tU (kQ (kK a) i) (kY (kK a) i) (kV (kK a) i) (kT (kK a) i) (ka0 (kT (kK a) i)) (kX (kK a) i) (kU (kK a) i) (kQ (kK b) j) (kY (kK b) j) (kV (kK b) j) (kT (kK b) j) (kX (kK b) j) (kU (kK b) j))) [] 0 [] none, .no, .ap none (p + 1) (dI .i64 (x ++ ([(tU (kQ (kK a) i) (kY (kK a) i) (kV (kK a) i) (kT (kK a) i) (ka0 (kT (kK a) i)) (kX (kK a) i) (kU (kK a) i) (kQ (kK b) j) (kY (kK b) j) (kV (kK b) j) (kT (kK b) j) (kX (kK b) j) (kU (kK b) j))] : List Int))), .no] ((_) ∧ ([iD (tU (kQ (kK a) i) (kY (kK a) i) (kV (kK a) i) (kT (kK a) i) (ka0 (kT (kK a) i)) (kX (kK a) i) (kU (kK a) i) (kQ (kK b) j) (kY (kK b) j) (kV (kK b) j) (kT (kK b) j) (kX (kK b) j) (kU (kK b) j))].length = 1 * 1) ∧ (((dI .i64 x) : List D).length = p * 1) ∧ ((p + 1) * 8 ≤ 140737488355328) ∧ (p + 1 = (p + 1)) ∧ (((dI .i64 x) : List D) ++ [iD (tU (kQ (kK a) i) (kY (kK a) i) (kV (kK a) i) (kT (kK a) i) (ka0 (kT (kK a) i)) (kX (kK a) i) (kU (kK a) i) (kQ (kK b) j) (kY (kK b) j) (kV (kK b) j) (kT (kK b) j) (kX (kK b) j) (kU (kK b) j))] = (dI .i64 (x ++ ([(tU (kQ (kK a) i) (kY (kK a) i) (kV (kK a) i) (kT (kK a) i) (ka0 (kT (kK a) i)) (kX (kK a) i) (kU (kK a) i) (kQ (kK b) j) (kY (kK b) j) (kV (kK b) j) (kT (kK b) j) (kX (kK b) j) (kU (kK b) j))] : List Int))))) [(1, .e (k9 b m)), (5, oV 6 0 (p + 1) 1), (7, rV 2 0), (14, .e (yL (kK a))), (15, uV (ka0 (kK a))), (16, uV i), (21, .e (yL (kK b))), (22, uV (ka0 (kK b))), (23, uV j)] [(2, some (63, (dT a i))), (6, some (3, .ds (dI .i64 (x ++ ([(tU (kQ (kK a) i) (kY (kK a) i) (kV (kK a) i) (kT (kK a) i) (ka0 (kT (kK a) i)) (kX (kK a) i) (kU (kK a) i) (kQ (kK b) j) (kY (kK b) j) (kV (kK b) j) (kT (kK b) j) (kX (kK b) j) (kU (kK b) j))] : List Int)))))] 7 ⟨(v6p (kQ (kK a) i) (kY (kK a) i) (kV (kK a) i) (kT (kK a) i) (ka0 (kT (kK a) i)) (kX (kK a) i) (kU (kK a) i) (kQ (kK b) j) (kY (kK b) j) (kV (kK b) j) (kT (kK b) j) (ka0 (kT (kK b) j)) (kX (kK b) j) (kU (kK b) j) zo zo rfl zo zo zo (BsW.ms (dP (qD : BsW a)) _) zo zo rfl zo zo zo (BsW.ms (dP (qD : BsW b)) _)), eP, eP, zo, zo, (a8 .i64 x ([(tU (kQ (kK a) i) (kY (kK a) i) (kV (kK a) i) (kT (kK a) i) (ka0 (kT (kK a) i)) (kX (kK a) i) (kU (kK a) i) (kQ (kK b) j) (kY (kK b) j) (kV (kK b) j) (kT (kK b) j) (kX (kK b) j) (kU (kK b) j))] : List Int))⟩ ?_
   refine yA [.w, .no] (u3 ((j : Int) + 1)) [(1, .e (k9 b m)), (5, oV 6 0 (p + 1) 1), (7, rV 2 0), (14, .e (yL (kK a))), (15, uV (ka0 (kK a))), (16, uV i), (21, .e (yL (kK b))), (22, uV (ka0 (kK b))), (23, iV (↑j + 1))] ⟨by omega, by omega⟩ ?_
   exact kW ⟨(((j + 1) : Nat), ((p + 1) : Nat), ((x ++ ([(tU (kQ (kK a) i) (kY (kK a) i) (kV (kK a) i) (kT (kK a) i) (ka0 (kT (kK a) i)) (kX (kK a) i) (kU (kK a) i) (kQ (kK b) j) (kY (kK b) j) (kV (kK b) j) (kT (kK b) j) (kX (kK b) j) (kU (kK b) j))] : List Int)) : List Int)), ⟨zo, (v11 hJ rfl), (by (simp only [qB, qA, ka8, kb0, kb2] <;> omega)), zo⟩⟩ [(3, 6)] (P := (kJ (kN b)) ∧ (kG m) ∧ (kG 0) ∧ (kG (p + 1)) ∧ (kG 0) ∧ (kJ (kN (kK a))) ∧ (kG (ka0 (kK a))) ∧ (kM (ka0 (kK a) : Int)) ∧ (kM (i : Int)) ∧ (kJ (kN (kK b))) ∧ (kG (ka0 (kK b))) ∧ (kM (ka0 (kK b) : Int)) ∧ (bU j) ∧ (kJ (dI .i64 (x ++ ([(tU (kQ (kK a) i) (kY (kK a) i) (kV (kK a) i) (kT (kK a) i) (ka0 (kT (kK a) i)) (kX (kK a) i) (kU (kK a) i) (kQ (kK b) j) (kY (kK b) j) (kV (kK b) j) (kT (kK b) j) (kX (kK b) j) (kU (kK b) j))] : List Int)))) ∧ (kJ (yI (kK a) i))) zk ⟨rfl, rfl, rfl, rfl, rfl, rfl, rfl, rfl, rfl, rfl, rfl, rfl, (by rfl), rfl, rfl⟩ (show ka0 (kK b) - (j + 1) < ka0 (kK b) - j from zo)
  ·refine kH [.b false] (¬ ((j : Int) < (ka0 (kK b) : Int))) [(1, .e (k9 b m)), (5, oV 3 0 p 1), (7, rV 2 0), (14, .e (yL (kK a))), (15, uV (ka0 (kK a))), (16, uV i), (21, .e (yL (kK b))), (22, uV (ka0 (kK b))), (23, uV j), (24, bV false)] [(2, some (63, (dT a i))), (3, some (3, .ds (dI .i64 x)))] 4 zo ?_
   refine AW.seq ?_
   refine zf ?_
   refine AW.exit ?_
   refine aC [.w, .no] (u3 ((i : Int) + 1)) [(1, .e (k9 b m)), (5, oV 3 0 p 1), (14, .e (yL (kK a))), (15, uV (ka0 (kK a))), (16, iV (↑i + 1))] [(3, some (3, .ds (dI .i64 x)))] 4 ⟨by omega, by omega⟩ ?_
   exact kW ⟨(((i + 1) : Nat), (p : Nat), (x : List Int)), ⟨zo, (v12 hJ zo), (by assumption), zo⟩⟩ [(1, 3)] (P := (kJ (kN b)) ∧ (kG m) ∧ (kG 0) ∧ (kG p) ∧ (kJ (kN (kK a))) ∧ (kG (ka0 (kK a))) ∧ (kM (ka0 (kK a) : Int)) ∧ (bU i) ∧ (kJ (dI .i64 x))) zk ⟨rfl, rfl, rfl, rfl, rfl, rfl, rfl, (by rfl), rfl⟩ (show ka0 (kK a) - (i + 1) < ka0 (kK a) - i from zo)
 ·refine kH [.b false] (¬ ((i : Int) < (ka0 (kK a) : Int))) [(1, .e (k9 b m)), (5, oV 1 0 q 1), (14, .e (yL (kK a))), (15, uV (ka0 (kK a))), (16, uV i), (17, bV false)] [(1, some (3, .ds (dI .i64 o)))] 2 zo ?_
  refine AW.seq ?_
  refine zf ?_
  refine AW.exit ?_
  refine AW.seq ?_
  rcases ka9 (ctB o q 15) with hx18 | hx18
  ·refine AW.freeze 1 (l' := [(1, .e (k9 b m)), (5, sV .i64 o q), (14, .e (yL (kK a))), (15, uV (ka0 (kK a))), (16, uV i), (17, bV false)]) (g' := []) rfl (FzS.cons rfl (.same _) (FzS.cons rfl (.e (.c (@FzC.own 1 ((dI .i64 o) : List D) 0 q 1 true ((dI .i64 o) : List D) zW eP))) (FzS.cons rfl (.same _) (FzS.cons rfl (.same _) (FzS.cons rfl (.same _) (FzS.cons rfl (.same _) FzS.nil)))))) FzG.nil ?_
   refine kH [.no, .call [] (bV true) [] 0 [] none] (Fun 136 [.c (.d (dl o q)), iE 15] (kF []) 0 (bV true) (kF []) 0) [(5, sV .i64 o q), (36, bV true)] [] 2 (by have h0 := (v3m o q 15 zo zo); rw [hx18] at h0; exact h0) ?_
   refine zt ?_
   refine kS [.no] True [(4, iV 0)] trivial ?_
   refine AW.ret ?_
   exact kA (.inr rfl) [] (P := (((vR a b) : Int) = 0)) zk (by exact v6h ho zo hq (by assumption))
  ·refine AW.freeze 1 (l' := [(1, .e (k9 b m)), (5, sV .i64 o q), (14, .e (yL (kK a))), (15, uV (ka0 (kK a))), (16, uV i), (17, bV false)]) (g' := []) rfl (FzS.cons rfl (.same _) (FzS.cons rfl (.e (.c (@FzC.own 1 ((dI .i64 o) : List D) 0 q 1 true ((dI .i64 o) : List D) zW eP))) (FzS.cons rfl (.same _) (FzS.cons rfl (.same _) (FzS.cons rfl (.same _) (FzS.cons rfl (.same _) FzS.nil)))))) FzG.nil ?_
   refine kH [.no, .call [] (bV false) [] 0 [] none] (Fun 136 [.c (.d (dl o q)), iE 15] (kF []) 0 (bV false) (kF []) 0) [(5, sV .i64 o q), (36, bV false)] [] 2 (by have h0 := (v3m o q 15 zo zo); rw [hx18] at h0; exact h0) ?_
   refine uO ?_
   refine kS [.no] True [(5, sV .i64 o q), (10, iV 15)] trivial ?_
   refine AW.seq ?_
   refine kH [.no, .no] True [(5, sV .i64 o q), (10, iV 15), (11, rV 2 0)] [(2, some (3, .ds [iD 14]))] 3 trivial ?_
   refine AW.block ?_
   refine k8 0 hcx (fun (x : {x : Nat × Int // match x with | (z, y) => (z ≤ 14 ∧ 0 ≤ y ∧ y ≤ 15) ∧ (bI o q z = y)}) => match x with | ⟨(z, y), _⟩ => (⟨[(5, sV .i64 o q), (10, iV y), (11, rV 3 0)], [(3, some (3, .ds [iD (14 - (z : Int))]))], 4⟩ : ES)) (fun x => match x with | ⟨(z, y), _⟩ => 14 - z) ⟨((0 : Nat), (15 : Int)), ⟨zo, rfl⟩⟩ [(3, 2)] (P := (kJ (dI .i64 o)) ∧ (kG q) ∧ (kM 15) ∧ (kG 0) ∧ (kJ [iD 14])) zk ⟨rfl, rfl, rfl, rfl, rfl⟩ ?_
   rintro ⟨⟨z, y⟩, hinv2⟩
   obtain ⟨hz, hy⟩ : (z ≤ 14 ∧ 0 ≤ y ∧ y ≤ 15) ∧ (bI o q z = y) := hinv2
   refine qW (l := [(5, sV .i64 o q), (10, iV y), (11, rV 3 0)]) (g := [(3, some (3, .ds [iD (14 - (z : Int))]))]) (nx := 4) rfl rfl rfl ?_
   refine AW.seq ?_
   by_cases hx19 : ((0 : Int) < (14 - ((z : Nat) : Int)))
   ·refine kH [.no, .b true] (((0 : Int) < (14 - (z : Int)))) [(5, sV .i64 o q), (10, iV y), (11, rV 3 0), (38, bV true)] [(3, some (3, .ds [iD (14 - ↑z)]))] 4 zo ?_
    refine vL ?_
    refine AW.seq ?_
    refine AW.block ?_
    refine kS [.no, .no] True [(5, sV .i64 o q), (10, iV y), (11, rV 3 0), (12, .e (.c (.fn 137 [(3, 0)])))] trivial ?_
    by_cases hx20 : ((0 : Int) < ((q : Nat) : Int))
    ·rcases ka9 (jD o q (14 - ((z : Nat) : Int))) with hx21 | hx21
     ·refine kS [.no, .no, .b true, .no, .no, .no, .call [3] (bV true) [(0, some (3, .ds [iD (14 - (z : Int))]))] 1 [] none, .no, .no, .no, .no] ((((0 : Int) < (q : Int))) ∧ (Fun 66 [.c (.d (dl o q)), .c (.fn 137 [(0, 0)])] (kF [(0, some (3, .ds [iD (14 - (z : Int))]))]) 1 (bV true) (kF [(0, some (3, .ds [iD (14 - (z : Int))]))]) 1)) [(5, sV .i64 o q), (10, iV y), (11, rV 3 0), (59, bV false)] ⟨zo, (by have h0 := (u9a o q (14 - (z : Int)) zo zo); rw [hx21] at h0; exact h0)⟩ ?_
      refine uO ?_
      refine AW.seq ?_
      refine kH [.no] True [(5, sV .i64 o q), (10, iV y), (61, iV (14 - ↑z))] [] 4 trivial ?_
      refine aC [.no, .no] True [(5, sV .i64 o q), (10, iV y), (11, rV 4 0)] [(4, some (3, .ds [iD (14 - ↑z)]))] 5 trivial ?_
      refine aC [.no, .w, .no] (u3 ((14 - (z : Int)) - 1)) [(5, sV .i64 o q), (10, iV y), (11, rV 4 0)] [(4, some (3, .ds [iD ((14 - ↑z) - 1)]))] 5 ⟨by omega, by omega⟩ ?_
      exact kW ⟨(((z + 1) : Nat), (y : Int)), ⟨zo, (by exact v6f hy (by assumption))⟩⟩ [(3, 4)] (P := (kJ (dI .i64 o)) ∧ (kG q) ∧ (kM y) ∧ (kG 0) ∧ (([iD (14 - (((z + 1) : Nat) : Int))] : List D) = [iD ((14 - (z : Int)) - 1)])) zk ⟨rfl, rfl, rfl, rfl, (by (rw [show (14 - ((z + 1 : Nat) : Int)) = 14 - (z : Int) - 1 by omega]))⟩ (show 14 - (z + 1) < 14 - z from zo)
     ·by_cases hx22 : ((uB (14 - ((z : Nat) : Int))) ≤ (uB y))
      ·refine kS [.no, .no, .b true, .no, .no, .no, .call [3] (bV false) [(0, some (3, .ds [iD (14 - (z : Int))]))] 1 [] none, .no, .no, .no, .no, .w, .call [] (iV (uB (14 - (z : Int)))) [] 0 [] none, .no, .w, .call [] (iV (uB y)) [] 0 [] none, .b true, .no] ((((0 : Int) < (q : Int))) ∧ (Fun 66 [.c (.d (dl o q)), .c (.fn 137 [(0, 0)])] (kF [(0, some (3, .ds [iD (14 - (z : Int))]))]) 1 (bV false) (kF [(0, some (3, .ds [iD (14 - (z : Int))]))]) 1) ∧ (0 ≤ (14 - (z : Int)) ∧ (14 - (z : Int)) ≤ 18446744073709551615) ∧ (_) ∧ (0 ≤ y ∧ y ≤ 18446744073709551615) ∧ (_) ∧ (((uB (14 - (z : Int))) ≤ (uB y)))) [(5, sV .i64 o q), (10, iV y), (11, rV 3 0), (59, bV true)] ⟨zo, (by have h0 := (u9a o q (14 - (z : Int)) zo zo); rw [hx21] at h0; exact h0), ⟨by omega, by omega⟩, (x7 (14 - (z : Int)) zo), ⟨by omega, by omega⟩, (x7 y zo), zo⟩ ?_
       refine zt ?_
       refine yA [.no, .no] True [(5, sV .i64 o q), (10, iV (14 - ↑z)), (11, rV 3 0)] trivial ?_
       refine AW.seq ?_
       refine kH [.no] True [(5, sV .i64 o q), (10, iV (14 - ↑z)), (61, iV (14 - ↑z))] [] 4 trivial ?_
       refine aC [.no, .no] True [(5, sV .i64 o q), (10, iV (14 - ↑z)), (11, rV 4 0)] [(4, some (3, .ds [iD (14 - ↑z)]))] 5 trivial ?_
       refine aC [.no, .w, .no] (u3 ((14 - (z : Int)) - 1)) [(5, sV .i64 o q), (10, iV (14 - ↑z)), (11, rV 4 0)] [(4, some (3, .ds [iD ((14 - ↑z) - 1)]))] 5 ⟨by omega, by omega⟩ ?_
       exact kW ⟨(((z + 1) : Nat), ((14 - (z : Int)) : Int)), ⟨zo, (by exact v6d hy zo (by assumption) zo rfl)⟩⟩ [(3, 4)] (P := (kJ (dI .i64 o)) ∧ (kG q) ∧ (kM (14 - (z : Int))) ∧ (kG 0) ∧ (([iD (14 - (((z + 1) : Nat) : Int))] : List D) = [iD ((14 - (z : Int)) - 1)])) zk ⟨rfl, rfl, rfl, rfl, (by (rw [show (14 - ((z + 1 : Nat) : Int)) = 14 - (z : Int) - 1 by omega]))⟩ (show 14 - (z + 1) < 14 - z from zo)
      ·refine kS [.no, .no, .b true, .no, .no, .no, .call [3] (bV false) [(0, some (3, .ds [iD (14 - (z : Int))]))] 1 [] none, .no, .no, .no, .no, .w, .call [] (iV (uB (14 - (z : Int)))) [] 0 [] none, .no, .w, .call [] (iV (uB y)) [] 0 [] none, .b false, .no] ((((0 : Int) < (q : Int))) ∧ (Fun 66 [.c (.d (dl o q)), .c (.fn 137 [(0, 0)])] (kF [(0, some (3, .ds [iD (14 - (z : Int))]))]) 1 (bV false) (kF [(0, some (3, .ds [iD (14 - (z : Int))]))]) 1) ∧ (0 ≤ (14 - (z : Int)) ∧ (14 - (z : Int)) ≤ 18446744073709551615) ∧ (_) ∧ (0 ≤ y ∧ y ≤ 18446744073709551615) ∧ (_) ∧ (¬ ((uB (14 - (z : Int))) ≤ (uB y)))) [(5, sV .i64 o q), (10, iV y), (11, rV 3 0), (59, bV false)] ⟨zo, (by have h0 := (u9a o q (14 - (z : Int)) zo zo); rw [hx21] at h0; exact h0), ⟨by omega, by omega⟩, (x7 (14 - (z : Int)) zo), ⟨by omega, by omega⟩, (x7 y zo), zo⟩ ?_
       refine uO ?_
       refine AW.seq ?_
       refine kH [.no] True [(5, sV .i64 o q), (10, iV y), (61, iV (14 - ↑z))] [] 4 trivial ?_
       refine aC [.no, .no] True [(5, sV .i64 o q), (10, iV y), (11, rV 4 0)] [(4, some (3, .ds [iD (14 - ↑z)]))] 5 trivial ?_
       refine aC [.no, .w, .no] (u3 ((14 - (z : Int)) - 1)) [(5, sV .i64 o q), (10, iV y), (11, rV 4 0)] [(4, some (3, .ds [iD ((14 - ↑z) - 1)]))] 5 ⟨by omega, by omega⟩ ?_
       exact kW ⟨(((z + 1) : Nat), (y : Int)), ⟨zo, (by exact v6e hy zo)⟩⟩ [(3, 4)] (P := (kJ (dI .i64 o)) ∧ (kG q) ∧ (kM y) ∧ (kG 0) ∧ (([iD (14 - (((z + 1) : Nat) : Int))] : List D) = [iD ((14 - (z : Int)) - 1)])) zk ⟨rfl, rfl, rfl, rfl, (by (rw [show (14 - ((z + 1 : Nat) : Int)) = 14 - (z : Int) - 1 by omega]))⟩ (show 14 - (z + 1) < 14 - z from zo)
    ·refine kS (.no :: .no :: .b false :: qE 4 []) (¬ ((0 : Int) < (q : Int))) [(5, sV .i64 o q), (10, iV y), (11, rV 3 0), (59, bV false)] zo ?_
     refine uO ?_
     refine AW.seq ?_
     refine kH [.no] True [(5, sV .i64 o q), (10, iV y), (61, iV (14 - ↑z))] [] 4 trivial ?_
     refine aC [.no, .no] True [(5, sV .i64 o q), (10, iV y), (11, rV 4 0)] [(4, some (3, .ds [iD (14 - ↑z)]))] 5 trivial ?_
     refine aC [.no, .w, .no] (u3 ((14 - (z : Int)) - 1)) [(5, sV .i64 o q), (10, iV y), (11, rV 4 0)] [(4, some (3, .ds [iD ((14 - ↑z) - 1)]))] 5 ⟨by omega, by omega⟩ ?_
     exact kW ⟨(((z + 1) : Nat), (y : Int)), ⟨zo, (by exact v6i hy zo)⟩⟩ [(3, 4)] (P := (kJ (dI .i64 o)) ∧ (kG q) ∧ (kM y) ∧ (kG 0) ∧ (([iD (14 - (((z + 1) : Nat) : Int))] : List D) = [iD ((14 - (z : Int)) - 1)])) zk ⟨rfl, rfl, rfl, rfl, (by (rw [show (14 - ((z + 1 : Nat) : Int)) = 14 - (z : Int) - 1 by omega]))⟩ (show 14 - (z + 1) < 14 - z from zo)
   ·refine kH [.no, .b false] (¬ ((0 : Int) < (14 - (z : Int)))) [(5, sV .i64 o q), (10, iV y), (11, rV 3 0), (38, bV false)] [(3, some (3, .ds [iD (14 - ↑z)]))] 4 zo ?_
    refine zf ?_
    refine AW.exit ?_
    refine kH [.no, .no] True [(4, iV y)] [] 4 trivial ?_
    refine AW.ret ?_
    exact kA (.inr rfl) [] (P := (((vR a b) : Int) = y)) zk (by exact v6g ho zo hq (by assumption) hy zo)
end Go.Proofs.YtbicifcgghmhaaaGreat
