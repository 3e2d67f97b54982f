/- What is to blame, of the code. No statement is proved here. -/
import Derived.Test.YtbicifcgghmhaaaGreatZL10N
namespace Go.Proofs.YtbicifcgghmhaaaGreat
open Go.ChangeShapes Go.WideShapes Go.ChangeAt Go.RowKit
open Bool renaming eq_false_or_eq_true → kb3
open List renaming drop → ka3, getD → ka1, length → ka0, length_append → ka6, length_cons → ka9, length_drop → kb2, length_map → kc3, length_nil → kb0, length_replicate → kb4, length_reverse → kc1, length_set → kb8, length_take → kb1
open Nat renaming le_of_ble_eq_true → ka4, mul_one → kc7
set_option linter.unusedVariables false
set_option linter.unusedSimpArgs false
/-! chapter 10: what is to blame -/
set_option maxHeartbeats 4000000
set_option maxRecDepth 100000
def qH (a b : Int) : Int := qM .and .i64 a b
def wE (k : Int) (r : List Int) (rn : Nat) (m : List (List Int)) (c : Nat) (s : List Int) (sn : Nat) (k2 : Int) (r2 : List Int) (rn2 : Nat) (m2 : List (List Int)) (s2 : List Int) (sn2 : Nat) : Int :=
 (if qH k k2 = 0 then 0 else 1) + (if qT (kB r rn) (kB r2 rn2) = 0 then 0 else 2) + (if ka0 (u5 m m2 c) = 0 then 0 else 4) + (if qT (kB s sn) (kB s2 sn2) = 0 then 0 else 8)
def yY (k k2 : Int) : Int := if qH k k2 = 0 then 0 else 1
def oS (a : Int) (n : Nat) (b : Int) : Int := a + (if n = 0 then 0 else b)
theorem lV (k k2 : Int) : (qH k k2 = 0 ∧ yY k k2 = 0) ∨ (¬ qH k k2 = 0 ∧ yY k k2 = 1) := by
 unfold yY; split
 ·exact .inl ⟨by assumption, rfl⟩
 ·exact .inr ⟨by assumption, rfl⟩
theorem l9 (a : Int) (n : Nat) (b : Int) : (n = 0 ∧ oS a n b = a) ∨ (1 ≤ n ∧ oS a n b = a + b) := by
 unfold oS; split
 ·exact .inl ⟨by assumption, by omega⟩
 ·exact .inr ⟨by omega, rfl⟩
theorem v3t {a : Int} (h : 0 ≤ a ∧ a ≤ 1) : qM .or .i64 a 2 = a + 2 := by
 rcases (by omega : a = 0 ∨ a = 1) with rfl | rfl <;> decide
theorem v3s {a : Int} (h : 0 ≤ a ∧ a ≤ 3) : qM .or .i64 a 4 = a + 4 := by
 rcases (by omega : a = 0 ∨ a = 1 ∨ a = 2 ∨ a = 3) with rfl | rfl | rfl | rfl <;> decide
theorem v3r {a : Int} (h : 0 ≤ a ∧ a ≤ 7) : qM .or .i64 a 8 = a + 8 := by
 rcases (by omega : a = 0 ∨ a = 1 ∨ a = 2 ∨ a = 3 ∨ a = 4 ∨ a = 5 ∨ a = 6 ∨ a = 7) with rfl | rfl | rfl | rfl | rfl | rfl | rfl | rfl <;> decide
theorem u1e (k : Int) (r : List Int) (rn : Nat) (m : List (List Int)) (c : Nat) (s : List Int) (sn : Nat) (k2 : Int) (r2 : List Int) (rn2 : Nat) (m2 : List (List Int)) (s2 : List Int) (sn2 : Nat) : 0 ≤ wE k r rn m c s sn k2 r2 rn2 m2 s2 sn2 ∧ wE k r rn m c s sn k2 r2 rn2 m2 s2 sn2 ≤ 15 := by
 unfold wE; (repeat' split) <;> omega
def shE (xs ys : List Bx) (i j : Nat) : Int := wE (kT xs i) (qE xs i) (k9 xs i) (kW xs i) (ka0 (kW xs i)) (qD xs i) (k8 xs i) (kT ys j) (qE ys j) (k9 ys j) (kW ys j) (qD ys j) (k8 ys j)
def pJ (xs ys : List Bx) : Nat → List Int
 | 0 => []
 | i + 1 => pJ xs ys i ++ (List.range (ka0 ys)).map (shE xs ys i)
def prJ (xs ys : List Bx) (i j : Nat) : List Int := pJ xs ys i ++ (List.range j).map (shE xs ys i)
theorem v0h {xs ys : List Bx} {i : Nat} {o : List Int} (h : pJ xs ys i = o) : prJ xs ys i 0 = o := by
 unfold prJ; rw [h]; exact List.append_nil _
theorem v0f {xs ys : List Bx} {i j : Nat} {o : List Int} {x : Int} (h : prJ xs ys i j = o) (hx : x = shE xs ys i j) : prJ xs ys i (j + 1) = o ++ [x] := by
 subst h; subst hx
 unfold prJ; rw [List.range_succ, List.map_append, List.append_assoc]; rfl
theorem v0g {xs ys : List Bx} {i j : Nat} {o : List Int} (h : prJ xs ys i j = o) (hj : j = ka0 ys) : pJ xs ys (i + 1) = o := by
 subst hj; exact h
theorem k2c (xs ys : List Bx) : ∀ i, ka0 (pJ xs ys i) = i * ka0 ys
 | 0 => (Nat.zero_mul _).symm
 | i + 1 => by rw [pJ, ka6, k2c xs ys i, kc3, List.length_range, Nat.succ_mul]
def ctB (l : List Int) (n : Nat) (v : Int) : Bool := decide (0 ≤ uT l v n)
def stB (d s : Int) : Bool := decide (qH d s = s)
def lX (l : List Int) (s : Int) : Nat → Int := lZ fun j => stB (ka1 l j 0) s
theorem u4i {l : List Int} {s : Int} {k : Nat} (h : lX l s k = -1) (h2 : stB (ka1 l k 0) s = false) : lX l s (k + 1) = -1 := cD h h2
theorem k2s {l : List Int} {s : Int} {k : Nat} (h : lX l s k = -1) (h2 : stB (ka1 l k 0) s = true) {n : Nat} (hn : k < n) : lX l s n = (k : Int) := eU h h2 n hn
def o4 (l : List Int) (n : Nat) (s : Int) : Bool := decide (0 ≤ lX l s n)
def uO (x : Int) : Int := x % 2 + x / 2 % 2 + x / 4 % 2 + x / 8 % 2
def cJ (l : List Int) (n : Nat) : Nat → Int
 | 0 => 15
 | i + 1 => if 1 ≤ n ∧ o4 l n (14 - (i : Int)) = false ∧ uO (14 - (i : Int)) ≤ uO (cJ l n i) then 14 - (i : Int) else cJ l n i
theorem tU (l : List Int) (n : Nat) : ∀ i, i ≤ 14 → 0 ≤ cJ l n i ∧ cJ l n i ≤ 15
 | 0, _ => ⟨(by decide : (0 : Int) ≤ 15), Int.le_refl 15⟩
 | i + 1, h => by
  have := tU l n i (by omega)
  rw [cJ]; split <;> omega
theorem u3d {l : List Int} {n i : Nat} {y x : Int} (h : cJ l n i = y) (h1 : 1 ≤ n) (h2 : o4 l n (14 - (i : Int)) = false) (h3 : uO (14 - (i : Int)) ≤ uO y) (hx : x = 14 - (i : Int)) : cJ l n (i + 1) = x := by
 subst h; rw [hx]; exact if_pos ⟨h1, h2, h3⟩
theorem u3h {l : List Int} {n i : Nat} {y : Int} (h : cJ l n i = y) (h1 : ¬ 1 ≤ n) : cJ l n (i + 1) = y := by
 subst h; exact if_neg fun e => h1 e.1
theorem u3f {l : List Int} {n i : Nat} {y : Int} (h : cJ l n i = y) (h2 : o4 l n (14 - (i : Int)) = true) : cJ l n (i + 1) = y := by
 subst h; exact if_neg fun e => by rw [h2] at e; cases e.2.1
theorem u3e {l : List Int} {n i : Nat} {y : Int} (h : cJ l n i = y) (h3 : ¬ uO (14 - (i : Int)) ≤ uO y) : cJ l n (i + 1) = y := by
 subst h; exact if_neg fun e => h3 e.2.2
def blP (l : List Int) : Int := if ctB l (ka0 l) 15 = true then 0 else cJ l (ka0 l) 14
def vV (a b : List Bx) : Int := blP (pJ (kL a) (kL b) (ka0 (kL a)))
theorem v2b {a b : List Bx} {o : List Int} {i n : Nat} (h : pJ (kL a) (kL b) i = o) (hi : i = ka0 (kL a)) (hn : ka0 o = n) (hc : ctB o n 15 = true) : vV a b = 0 := by
 subst hi; subst hn
 unfold vV; rw [h]; exact if_pos hc
theorem v2a {a b : List Bx} {o : List Int} {i n : Nat} {y : Int} {z : Nat} (h : pJ (kL a) (kL b) i = o) (hi : i = ka0 (kL a)) (hn : ka0 o = n) (hc : ctB o n 15 = false) (hy : cJ o n z = y) (hz : z = 14) : vV a b = y := by
 subst hi; subst hn; subst hz
 unfold vV; rw [h, ← hy]; exact if_neg (by rw [hc]; decide)
theorem dG (a b : List Bx) : 0 ≤ vV a b ∧ vV a b ≤ 15 := by
 unfold vV blP; split
 ·decide
 ·exact tU _ _ 14 (Nat.le_refl _)
theorem u03 (a : List Bx) : ka0 (kL a) ≤ 64 := by
 unfold kL; split
 ·rename_i h; exact (of_decide_eq_true h).1
 ·exact Nat.zero_le _
theorem c16 {x : Int} (h : 0 ≤ x ∧ x ≤ 15) {p : Int → Prop} (h0 : ∀ n : Nat, n < 16 → p (n : Int)) : p x := by
 have := h0 x.toNat (by omega)
 rw [show ((x.toNat : Nat) : Int) = x by omega] at this; exact this
def wH (x : Int) : Int := x / 2 % 2 + 4 * (x / 8 % 2)
def wG (x : Int) : Int := x % 2 + 4 * (x / 4 % 2)
def pN (x : Int) : Int := x / 4 % 2 + x / 8 % 2
def pM (x : Int) : Int := x % 2 + x / 2 % 2
theorem v40 {x : Int} (h : 0 ≤ x ∧ x ≤ 15) : qM .and .u64 (x / 2) 6148914691236517205 = wH x := c16 (p := fun x => qM .and .u64 (x / 2) 6148914691236517205 = wH x) h (by decide)
theorem v3z {x : Int} (h : 0 ≤ x ∧ x ≤ 15) : qM .and .u64 x 6148914691236517205 = wG x := c16 (p := fun x => qM .and .u64 x 6148914691236517205 = wG x) h (by decide)
theorem v3y {x : Int} (h : 0 ≤ x ∧ x ≤ 15) : qM .and .u64 ((wH x + wG x) / 4) 3689348814741910323 = pN x := c16 (p := fun x => qM .and .u64 ((wH x + wG x) / 4) 3689348814741910323 = pN x) h (by decide)
theorem v3x {x : Int} (h : 0 ≤ x ∧ x ≤ 15) : qM .and .u64 (wH x + wG x) 3689348814741910323 = pM x := c16 (p := fun x => qM .and .u64 (wH x + wG x) 3689348814741910323 = pM x) h (by decide)
theorem v3w {x y : Int} (h : 0 ≤ x ∧ x ≤ 15) (hy : y = pN x + pM x) : qM .and .u64 y 1085102592571150095 = uO x := by
 rw [hy]; exact c16 (p := fun x => qM .and .u64 (pN x + pM x) 1085102592571150095 = uO x) h (by decide)
theorem v3v {x y : Int} (h : 0 ≤ x ∧ x ≤ 15) (hy : y = uO x) : qM .and .i64 y 127 = uO x := by
 rw [hy]; exact c16 (p := fun x => qM .and .i64 (uO x) 127 = uO x) h (by decide)
theorem v3u {x : Int} (h : 0 ≤ x ∧ x ≤ 15) : (0 ≤ wH x ∧ wH x ≤ 5) ∧ (0 ≤ wG x ∧ wG x ≤ 5) ∧ (0 ≤ pN x ∧ pN x ≤ 2) ∧ (0 ≤ pM x ∧ pM x ≤ 2) ∧ 0 ≤ uO x ∧ uO x ≤ 4 := by
 unfold wH wG pN pM uO; omega
theorem aW {p : Prop} (h : p := by first | omega | assumption | simp) : p := h
theorem k06 {p : Prop} (h : p := by first | omega | (simp only [kZ, kY, ka6, ka9, kb0, kb1, kb2] <;> omega)) : p := h
theorem bI {p : Prop} (h : p := by first | omega | with_reducible assumption | (simp only [kZ, kY, ka6, ka9, kb0, kb1, kb2, kb4, kb8] <;> omega) | rfl | assumption) : p := h
theorem dK {p : Prop} (h : p := by first | omega | (simp only [kZ, kY, qV, ka6, ka9, kb0, kb1, kb2, kb4, kb8, kc3, kc1, kc7] <;> omega) | rfl) : p := h
theorem k05 {p : Prop} (h : p := by first | omega | (simp only [kZ, kY, ka6, ka9, kb0] <;> omega)) : p := h
theorem bH {p : Prop} (h : p := by first | rfl | omega | assumption | (simp; done) | (simp; omega)) : p := h
theorem eF {p : Prop} (h : p := by first | omega | (show _ < _; simp; omega)) : p := h
theorem k07 {p : Prop} (h : p := by rw [List.drop_zero, kc7, List.take_of_length_le (by first | omega | (simp only [kZ, kY, qV, ka6, ka9, kb0, kb1, kb2, kb4, kb8, kc3, kc1, kc7] <;> omega))]) : p := h
theorem k54 (a b : List (List Int)) (n m : Nat) (hn : ka0 a = n) (hm : ka0 b = m) (h1 : n ≤ 1000000) (h2 : m ≤ 1000000) (hW : MsW a) (hV : MsW b) : Fun 161 [.c (.d (D.sl (kK a) n)), .c (.d (D.sl (kK b) m))] (kF []) 0 (qK (kK (u5 a b n)) (ka0 (u5 a b n))) (kF []) 0 := by
 refine Fun.mk (n := 24) Tryz.func161 rfl rfl (ka4 rfl) ?_
 intro cx hcx
 refine kI [.no] True [(0, qK (kK a) n), (1, qK (kK b) m)] [] 0 trivial ?_
 refine kS [.no] True [(0, qK (kK a) n), (1, qK (kK b) m), (5, nV)] trivial ?_
 refine AW.seq ?_
 refine kS [.no, .no, .no] True [(1, qK (kK b) m), (5, nV), (8, qK (kK a) n), (9, uV n), (10, iV 0)] trivial ?_
 refine AW.block ?_
 refine AW.adoptS 5 1 38 rfl ?_
 refine qF 0 hcx (fun (x : {x : Nat × Nat × List (List Int) // match x with | (i, q, o) => (i ≤ n ∧ q ≤ i) ∧ (u5 a b i = o) ∧ (ka0 o = q) ∧ (MsW o)}) => match x with | ⟨(i, q, o), _⟩ => (⟨[(1, qK (kK b) m), (5, oV 1 0 q 1), (8, qK (kK a) n), (9, uV n), (10, uV i)], [(1, some (38, .ds (kK o)))], 2⟩ : ES)) (fun x => match x with | ⟨(i, q, o), _⟩ => n - i) ⟨((0 : Nat), (0 : Nat), (([] : List (List Int)) : List (List Int))), ⟨aW, rfl, rfl, MsW.nil⟩⟩ [(1, 0)] (P := (kM (kK b)) ∧ (kH m) ∧ (kH 0) ∧ (kH 0) ∧ (kM (kK a)) ∧ (kH n) ∧ (kP (n : Int)) ∧ (kP 0) ∧ (((kK ([] : List (List Int))) : List D) = ([] : List D))) zk ⟨rfl, rfl, rfl, rfl, rfl, rfl, rfl, rfl, (by first | rfl | with_reducible assumption)⟩ ?_
 rintro ⟨⟨i, q, o⟩, hinv0⟩
 obtain ⟨hi, ho, hq, hO⟩ : (i ≤ n ∧ q ≤ i) ∧ (u5 a b i = o) ∧ (ka0 o = q) ∧ (MsW o) := hinv0
 refine uG (l := [(1, qK (kK b) m), (5, oV 1 0 q 1), (8, qK (kK a) n), (9, uV n), (10, uV i)]) (g := [(1, some (38, .ds (kK o)))]) (nx := 2) rfl rfl rfl ?_
 by_cases hx1 : (((i : Nat) : Int) < ((n : Nat) : Int))
 ·refine kI [.b true] (((i : Int) < (n : Int))) [(1, qK (kK b) m), (5, oV 1 0 q 1), (8, qK (kK a) n), (9, uV n), (10, uV i), (11, bV true)] [(1, some (38, .ds (kK o)))] 2 zo ?_
  refine AW.seq ?_
  refine vO ?_
  refine AW.seq ?_
  refine AW.block ?_
  have hx2 : ((ka0 (ka1 a i ([] : List Int))) ≤ 1000000) := MsW.at (qJ : MsW a) _
  refine kS [.n i, .d (dl (ka1 a i ([] : List Int)) (ka0 (ka1 a i ([] : List Int)))), .no] ((kP (i : Int)) ∧ (i < n) ∧ ((ka3 i (kK a))[0]? = some (dl (ka1 a i ([] : List Int)) (ka0 (ka1 a i ([] : List Int)))))) [(1, qK (kK b) m), (5, oV 1 0 q 1), (7, sV .i64 (ka1 a i ([] : List Int)) (ka0 (ka1 a i ([] : List Int)))), (8, qK (kK a) n), (9, uV n), (10, uV i)] ⟨rfl, zo, (bK _ _ k06)⟩ ?_
  rcases kb3 (iJ b (ka1 a i ([] : List Int))) with hx3 | hx3
  ·refine kS [.no, .no, .call [] (bV true) [] 0 [] none] (Fun 126 [.c (.d (D.sl (kK b) m)), .c (.d (dl (ka1 a i ([] : List Int)) (ka0 (ka1 a i ([] : List Int)))))] (kF []) 0 (bV true) (kF []) 0) [(1, qK (kK b) m), (5, oV 1 0 q 1), (7, sV .i64 (ka1 a i ([] : List Int)) (ka0 (ka1 a i ([] : List Int)))), (8, qK (kK a) n), (9, uV n), (10, uV i), (16, bV true)] (by have h0 := (jM b m (ka1 a i ([] : List Int)) (ka0 (ka1 a i ([] : List Int))) zo rfl zo bI (qJ : MsW b)); rw [hx3] at h0; exact h0) ?_
   refine zt ?_
   refine aB [.no, .no, (.fz (.call [] (oV 0 0 (ka0 (ka1 a i ([] : List Int))) 1) [(0, some (3, .ds (dI .i64 (ka1 a i ([] : List Int)))))] 1 [] none)), .no, .ap none (q + 1) (kK (o ++ ([(ka1 a i ([] : List Int))] : List (List Int)))), .no] ((_) ∧ (((dI .i64 (ka1 a i ([] : List Int))) : List D).length = (ka0 (ka1 a i ([] : List Int))) * 1) ∧ ([dl (ka1 a i ([] : List Int)) (ka0 (ka1 a i ([] : List Int)))].length = 1 * 1) ∧ (((kK o) : List D).length = q * 1) ∧ ((q + 1) * 24 ≤ 140737488355328) ∧ (q + 1 = (q + 1)) ∧ (((kK o) : List D) ++ [dl (ka1 a i ([] : List Int)) (ka0 (ka1 a i ([] : List Int)))] = (kK (o ++ ([(ka1 a i ([] : List Int))] : List (List Int)))))) [(1, qK (kK b) m), (5, oV 4 0 (q + 1) 1), (8, qK (kK a) n), (9, uV n), (10, uV i)] [(4, some (38, .ds (kK (o ++ ([(ka1 a i ([] : List Int))] : List (List Int))))))] 5 ⟨(dJ (ka1 a i ([] : List Int)) (ka0 (ka1 a i ([] : List Int))) rfl bI), dK, dK, dK, zo, zo, (sR o (ka1 a i ([] : List Int)) (ka0 (ka1 a i ([] : List Int))) (by first | rfl | omega))⟩ ?_
   refine yK [.w, .no] (yF ((i : Int) + 1)) [(1, qK (kK b) m), (5, oV 4 0 (q + 1) 1), (8, qK (kK a) n), (9, uV n), (10, iV (↑i + 1))] ⟨by omega, by omega⟩ ?_
   exact Rd.of ⟨(((i + 1) : Nat), ((q + 1) : Nat), ((o ++ ([(ka1 a i ([] : List Int))] : List (List Int))) : List (List Int))), ⟨aW, (by first | exact u5a ho (by assumption) | exact u5b ho (by assumption)), k05, (by first | assumption | exact MsW.snoc (by assumption) zo)⟩⟩ [(1, 4)] (P := (kM (kK b)) ∧ (kH m) ∧ (kH 0) ∧ (kH (q + 1)) ∧ (kM (kK a)) ∧ (kH n) ∧ (kP (n : Int)) ∧ (cU i) ∧ (kM (kK (o ++ ([(ka1 a i ([] : List Int))] : List (List Int)))))) zk ⟨rfl, rfl, rfl, rfl, rfl, rfl, rfl, bH, rfl⟩ (show n - (i + 1) < n - i from eF)
  ·refine kS [.no, .no, .call [] (bV false) [] 0 [] none] (Fun 126 [.c (.d (D.sl (kK b) m)), .c (.d (dl (ka1 a i ([] : List Int)) (ka0 (ka1 a i ([] : List Int)))))] (kF []) 0 (bV false) (kF []) 0) [(1, qK (kK b) m), (5, oV 1 0 q 1), (7, sV .i64 (ka1 a i ([] : List Int)) (ka0 (ka1 a i ([] : List Int)))), (8, qK (kK a) n), (9, uV n), (10, uV i), (16, bV false)] (by have h0 := (jM b m (ka1 a i ([] : List Int)) (ka0 (ka1 a i ([] : List Int))) zo rfl zo bI (qJ : MsW b)); rw [hx3] at h0; exact h0) ?_
   refine u9 ?_
   refine yK [.w, .no] (yF ((i : Int) + 1)) [(1, qK (kK b) m), (5, oV 1 0 q 1), (8, qK (kK a) n), (9, uV n), (10, iV (↑i + 1))] ⟨by omega, by omega⟩ ?_
   exact Rd.of ⟨(((i + 1) : Nat), (q : Nat), (o : List (List Int))), ⟨aW, (by first | exact u5a ho (by assumption) | exact u5b ho (by assumption)), k05, (by first | assumption | exact MsW.snoc (by assumption) zo)⟩⟩ [] (P := (kM (kK b)) ∧ (kH m) ∧ (kH 0) ∧ (kH q) ∧ (kM (kK a)) ∧ (kH n) ∧ (kP (n : Int)) ∧ (cU i) ∧ (kM (kK o))) zk ⟨rfl, rfl, rfl, rfl, rfl, rfl, rfl, bH, rfl⟩ (show n - (i + 1) < n - i from eF)
 ·refine kI [.b false] (¬ ((i : Int) < (n : Int))) [(1, qK (kK b) m), (5, oV 1 0 q 1), (8, qK (kK a) n), (9, uV n), (10, uV i), (11, bV false)] [(1, some (38, .ds (kK o)))] 2 zo ?_
  refine AW.seq ?_
  refine zf ?_
  refine AW.exit ?_
  refine kI [.no, .no] True [(4, oV 1 0 q 1)] [(1, some (38, .ds (kK o)))] 2 trivial ?_
  refine AW.freeze 1 (l' := [(4, qK (kK o) q)]) (g' := []) rfl (FzS.cons rfl (.e (.c (@FzC.own 1 ((kK o) : List D) 0 q 1 true ((kK o) : List D) k07 dK))) FzS.nil) FzG.nil ?_
  have hz1 : u5 a b n = o := by have h9 := ho; rw [show i = n by omega] at h9; exact h9
  refine AW.ret ?_
  exact EndP.of (.inr rfl) [] (P := (((kK (u5 a b n)) : List D) = (kK o)) ∧ (((ka0 (u5 a b n)) : Nat) = q)) zk ⟨(by first | rfl | (rw [hz1]; done) | (rw [hz1]; rfl)), (by first | rfl | (rw [hz1]; omega) | omega)⟩
abbrev dO (k : Int) (r : List Int) (rn : Nat) (m : List (List Int)) (c : Nat) (s : List Int) (sn : Nat) : BC := .ds [iD k, D.sl (dI .i64 r) rn, D.sl (kK m) c, D.sl (dI .i64 s) sn]
abbrev dN (k2 : Int) (r2 : List Int) (rn2 : Nat) (m2 : List (List Int)) (c2 : Nat) (s2 : List Int) (sn2 : Nat) : BC := .ds [iD k2, D.sl (dI .i64 r2) rn2, D.sl (kK m2) c2, D.sl (dI .i64 s2) sn2]
theorem v4z (k : Int) (r : List Int) (rn : Nat) (m : List (List Int)) (c : Nat) (s : List Int) (sn : Nat) (k2 : Int) (r2 : List Int) (rn2 : Nat) (m2 : List (List Int)) (c2 : Nat) (s2 : List Int) (sn2 : Nat) (hr : ka0 r = rn * 2) (hs : ka0 s = sn * 2) (hc : ka0 m = c) (h1 : rn ≤ 1000000) (h2 : sn ≤ 1000000) (h3 : c ≤ 1000000) (hW : MsW m) (hr2 : ka0 r2 = rn2 * 2) (hs2 : ka0 s2 = sn2 * 2) (hc2 : ka0 m2 = c2) (h12 : rn2 ≤ 1000000) (h22 : sn2 ≤ 1000000) (h32 : c2 ≤ 1000000) (hW2 : MsW m2) : Fun 135 [.agg [iC k, .d (D.sl (dI .i64 r) rn), .d (D.sl (kK m) c), .d (D.sl (dI .i64 s) sn)], .agg [iC k2, .d (D.sl (dI .i64 r2) rn2), .d (D.sl (kK m2) c2), .d (D.sl (dI .i64 s2) sn2)]] (kF []) 0 (iV (wE k r rn m c s sn k2 r2 rn2 m2 s2 sn2)) (kF []) 0 := by
 refine Fun.mk (n := 44) Tryz.func135 rfl rfl (ka4 rfl) ?_
 intro cx hcx
 refine kI [.no, .no, .no] True [(2, rV 0 0), (3, rV 1 0)] [(0, some (63, (dO k r rn m c s sn))), (1, some (63, (dN k2 r2 rn2 m2 c2 s2 sn2)))] 2 trivial ?_
 refine kS [.no] True [(2, rV 0 0), (3, rV 1 0), (5, iV 0)] trivial ?_
 refine aL hcx [(2, rV 0 0), (3, rV 1 0), (5, iV (yY k k2))] [(0, some (63, (dO k r rn m c s sn))), (1, some (63, (dN k2 r2 rn2 m2 c2 s2 sn2)))] 2 ?_ ?_
 ·by_cases hx2 : ((qH k k2) ≠ 0)
  ·have hx3 : (qH k k2 = 0 ∧ yY k k2 = 0) ∨ (¬ qH k k2 = 0 ∧ yY k k2 = 1) := lV _ _
   refine kI (qN 4 [.i (qH k k2), .b true]) ((qM .and .i64 k k2 = (qH k k2)) ∧ (((qH k k2) ≠ 0))) [(2, rV 0 0), (3, rV 1 0), (5, iV 0), (11, bV true)] [(0, some (63, (dO k r rn m c s sn))), (1, some (63, (dN k2 r2 rn2 m2 c2 s2 sn2)))] 2 ⟨rfl, zo⟩ ?_
   refine zt ?_
   refine yK [.no, .i 1, .no] (qM .or .i64 0 1 = 1) [(2, rV 0 0), (3, rV 1 0), (5, iV 1)] (by decide) ?_
   exact Rd.of () [] (P := (kH 0) ∧ (kH 0) ∧ (((yY k k2) : Int) = 1) ∧ (kM [iD k, dl r rn, D.sl (kK m) c, dl s sn]) ∧ (kM [iD k2, dl r2 rn2, D.sl (kK m2) c2, dl s2 sn2])) zk ⟨rfl, rfl, bH, rfl, rfl⟩ True.intro
  ·have hx4 : (qH k k2 = 0 ∧ yY k k2 = 0) ∨ (¬ qH k k2 = 0 ∧ yY k k2 = 1) := lV _ _
   refine kI (qN 4 [.i (qH k k2), .b false]) ((qM .and .i64 k k2 = (qH k k2)) ∧ (¬ ((qH k k2) ≠ 0))) [(2, rV 0 0), (3, rV 1 0), (5, iV 0), (11, bV false)] [(0, some (63, (dO k r rn m c s sn))), (1, some (63, (dN k2 r2 rn2 m2 c2 s2 sn2)))] 2 ⟨rfl, zo⟩ ?_
   refine u9 ?_
   exact Rd.of () [] (P := (kH 0) ∧ (kH 0) ∧ (((yY k k2) : Int) = 0) ∧ (kM [iD k, dl r rn, D.sl (kK m) c, dl s sn]) ∧ (kM [iD k2, dl r2 rn2, D.sl (kK m2) c2, dl s2 sn2])) zk ⟨rfl, rfl, bH, rfl, rfl⟩ True.intro
 ·refine aL hcx [(2, rV 0 0), (3, rV 1 0), (5, iV (oS (yY k k2) (qT (kB r rn) (kB r2 rn2)) 2))] [(0, some (63, (dO k r rn m c s sn))), (1, some (63, (dN k2 r2 rn2 m2 c2 s2 sn2)))] 2 ?_ ?_
  ·by_cases hx9 : ((0 : Int) < (((qT (kB r rn) (kB r2 rn2)) : Nat) : Int))
   ·have hx10 : ((qT (kB r rn) (kB r2 rn2) : Nat) = 0 ∧ oS (yY k k2) (qT (kB r rn) (kB r2 rn2)) 2 = yY k k2) ∨ (1 ≤ qT (kB r rn) (kB r2 rn2) ∧ oS (yY k k2) (qT (kB r rn) (kB r2 rn2)) 2 = yY k k2 + 2) := l9 _ _ _
    have hx11 : 0 ≤ yY k k2 ∧ yY k k2 ≤ 1 := (by have h9 := lV k k2; omega)
    have hx12 : ((ka0 (uN (kB r rn) (kB r2 rn2))) = ((qT (kB r rn) (kB r2 rn2)) * 2)) := u4 _ _
    have hx13 : ((qT (kB r rn) (kB r2 rn2)) ≤ 64) := aG _ _
    refine kI (qN 4 [.call [] (.e (.agg [.d (dl (uN (kB r rn) (kB r2 rn2)) (qT (kB r rn) (kB r2 rn2)))])) [] 0 [] none, .no, .no, .b true]) ((_) ∧ (((0 : Int) < (qT (kB r rn) (kB r2 rn2) : Int)))) [(2, rV 0 0), (3, rV 1 0), (5, iV (yY k k2)), (21, bV true)] [(0, some (63, (dO k r rn m c s sn))), (1, some (63, (dN k2 r2 rn2 m2 c2 s2 sn2)))] 2 ⟨(gJ r r2 rn rn2 zo zo zo zo), zo⟩ ?_
    refine zt ?_
    refine yK [.no, .i ((yY k k2) + 2), .no] (qM .or .i64 (yY k k2) 2 = ((yY k k2) + 2)) [(2, rV 0 0), (3, rV 1 0), (5, iV ((yY k k2) + 2))] (v3t zo) ?_
    exact Rd.of () [] (P := (kH 0) ∧ (kH 0) ∧ (((oS (yY k k2) (qT (kB r rn) (kB r2 rn2)) 2) : Int) = ((yY k k2) + 2)) ∧ (kM [iD k, dl r rn, D.sl (kK m) c, dl s sn]) ∧ (kM [iD k2, dl r2 rn2, D.sl (kK m2) c2, dl s2 sn2])) zk ⟨rfl, rfl, bH, rfl, rfl⟩ True.intro
   ·have hx14 : ((qT (kB r rn) (kB r2 rn2) : Nat) = 0 ∧ oS (yY k k2) (qT (kB r rn) (kB r2 rn2)) 2 = yY k k2) ∨ (1 ≤ qT (kB r rn) (kB r2 rn2) ∧ oS (yY k k2) (qT (kB r rn) (kB r2 rn2)) 2 = yY k k2 + 2) := l9 _ _ _
    have hx15 : 0 ≤ yY k k2 ∧ yY k k2 ≤ 1 := (by have h9 := lV k k2; omega)
    have hx16 : ((ka0 (uN (kB r rn) (kB r2 rn2))) = ((qT (kB r rn) (kB r2 rn2)) * 2)) := u4 _ _
    have hx17 : ((qT (kB r rn) (kB r2 rn2)) ≤ 64) := aG _ _
    refine kI (qN 4 [.call [] (.e (.agg [.d (dl (uN (kB r rn) (kB r2 rn2)) (qT (kB r rn) (kB r2 rn2)))])) [] 0 [] none, .no, .no, .b false]) ((_) ∧ (¬ ((0 : Int) < (qT (kB r rn) (kB r2 rn2) : Int)))) [(2, rV 0 0), (3, rV 1 0), (5, iV (yY k k2)), (21, bV false)] [(0, some (63, (dO k r rn m c s sn))), (1, some (63, (dN k2 r2 rn2 m2 c2 s2 sn2)))] 2 ⟨(gJ r r2 rn rn2 zo zo zo zo), zo⟩ ?_
    refine u9 ?_
    exact Rd.of () [] (P := (kH 0) ∧ (kH 0) ∧ (((oS (yY k k2) (qT (kB r rn) (kB r2 rn2)) 2) : Int) = (yY k k2)) ∧ (kM [iD k, dl r rn, D.sl (kK m) c, dl s sn]) ∧ (kM [iD k2, dl r2 rn2, D.sl (kK m2) c2, dl s2 sn2])) zk ⟨rfl, rfl, bH, rfl, rfl⟩ True.intro
  ·refine aL hcx [(2, rV 0 0), (3, rV 1 0), (5, iV (oS (oS (yY k k2) (qT (kB r rn) (kB r2 rn2)) 2) (ka0 (u5 m m2 c)) 4))] [(0, some (63, (dO k r rn m c s sn))), (1, some (63, (dN k2 r2 rn2 m2 c2 s2 sn2)))] 2 ?_ ?_
   ·by_cases hx21 : ((0 : Int) < (((ka0 (u5 m m2 c)) : Nat) : Int))
    ·have hx22 : ((ka0 (u5 m m2 c) : Nat) = 0 ∧ oS (oS (yY k k2) (qT (kB r rn) (kB r2 rn2)) 2) (ka0 (u5 m m2 c)) 4 = oS (yY k k2) (qT (kB r rn) (kB r2 rn2)) 2) ∨ (1 ≤ ka0 (u5 m m2 c) ∧ oS (oS (yY k k2) (qT (kB r rn) (kB r2 rn2)) 2) (ka0 (u5 m m2 c)) 4 = oS (yY k k2) (qT (kB r rn) (kB r2 rn2)) 2 + 4) := l9 _ _ _
     have hx23 : 0 ≤ oS (yY k k2) (qT (kB r rn) (kB r2 rn2)) 2 ∧ oS (yY k k2) (qT (kB r rn) (kB r2 rn2)) 2 ≤ 3 := (by have h9 := lV k k2; have h8 := l9 (yY k k2) (qT (kB r rn) (kB r2 rn2)) 2; omega)
     have hx24 : ((ka0 (u5 m m2 c)) ≤ c) := cW m m2 c
     refine kI (qN 4 [.call [] (qK (kK (u5 m m2 c)) (ka0 (u5 m m2 c))) [] 0 [] none, .no, .b true]) ((_) ∧ (((0 : Int) < (ka0 (u5 m m2 c) : Int)))) [(2, rV 0 0), (3, rV 1 0), (5, iV (oS (yY k k2) (qT (kB r rn) (kB r2 rn2)) 2)), (30, bV true)] [(0, some (63, (dO k r rn m c s sn))), (1, some (63, (dN k2 r2 rn2 m2 c2 s2 sn2)))] 2 ⟨(k54 m m2 c c2 zo zo zo zo (qJ : MsW m) (qJ : MsW m2)), zo⟩ ?_
     refine zt ?_
     refine yK [.no, .i ((oS (yY k k2) (qT (kB r rn) (kB r2 rn2)) 2) + 4), .no] (qM .or .i64 (oS (yY k k2) (qT (kB r rn) (kB r2 rn2)) 2) 4 = ((oS (yY k k2) (qT (kB r rn) (kB r2 rn2)) 2) + 4)) [(2, rV 0 0), (3, rV 1 0), (5, iV ((oS (yY k k2) (qT (kB r rn) (kB r2 rn2)) 2) + 4))] (v3s zo) ?_
     exact Rd.of () [] (P := (kH 0) ∧ (kH 0) ∧ (((oS (oS (yY k k2) (qT (kB r rn) (kB r2 rn2)) 2) (ka0 (u5 m m2 c)) 4) : Int) = ((oS (yY k k2) (qT (kB r rn) (kB r2 rn2)) 2) + 4)) ∧ (kM [iD k, dl r rn, D.sl (kK m) c, dl s sn]) ∧ (kM [iD k2, dl r2 rn2, D.sl (kK m2) c2, dl s2 sn2])) zk ⟨rfl, rfl, bH, rfl, rfl⟩ True.intro
    ·have hx25 : ((ka0 (u5 m m2 c) : Nat) = 0 ∧ oS (oS (yY k k2) (qT (kB r rn) (kB r2 rn2)) 2) (ka0 (u5 m m2 c)) 4 = oS (yY k k2) (qT (kB r rn) (kB r2 rn2)) 2) ∨ (1 ≤ ka0 (u5 m m2 c) ∧ oS (oS (yY k k2) (qT (kB r rn) (kB r2 rn2)) 2) (ka0 (u5 m m2 c)) 4 = oS (yY k k2) (qT (kB r rn) (kB r2 rn2)) 2 + 4) := l9 _ _ _
     have hx26 : 0 ≤ oS (yY k k2) (qT (kB r rn) (kB r2 rn2)) 2 ∧ oS (yY k k2) (qT (kB r rn) (kB r2 rn2)) 2 ≤ 3 := (by have h9 := lV k k2; have h8 := l9 (yY k k2) (qT (kB r rn) (kB r2 rn2)) 2; omega)
     have hx27 : ((ka0 (u5 m m2 c)) ≤ c) := cW m m2 c
     refine kI (qN 4 [.call [] (qK (kK (u5 m m2 c)) (ka0 (u5 m m2 c))) [] 0 [] none, .no, .b false]) ((_) ∧ (¬ ((0 : Int) < (ka0 (u5 m m2 c) : Int)))) [(2, rV 0 0), (3, rV 1 0), (5, iV (oS (yY k k2) (qT (kB r rn) (kB r2 rn2)) 2)), (30, bV false)] [(0, some (63, (dO k r rn m c s sn))), (1, some (63, (dN k2 r2 rn2 m2 c2 s2 sn2)))] 2 ⟨(k54 m m2 c c2 zo zo zo zo (qJ : MsW m) (qJ : MsW m2)), zo⟩ ?_
     refine u9 ?_
     exact Rd.of () [] (P := (kH 0) ∧ (kH 0) ∧ (((oS (oS (yY k k2) (qT (kB r rn) (kB r2 rn2)) 2) (ka0 (u5 m m2 c)) 4) : Int) = (oS (yY k k2) (qT (kB r rn) (kB r2 rn2)) 2)) ∧ (kM [iD k, dl r rn, D.sl (kK m) c, dl s sn]) ∧ (kM [iD k2, dl r2 rn2, D.sl (kK m2) c2, dl s2 sn2])) zk ⟨rfl, rfl, bH, rfl, rfl⟩ True.intro
   ·refine aL hcx [(5, iV (oS (oS (oS (yY k k2) (qT (kB r rn) (kB r2 rn2)) 2) (ka0 (u5 m m2 c)) 4) (qT (kB s sn) (kB s2 sn2)) 8))] [] 2 ?_ ?_
    ·by_cases hx32 : ((0 : Int) < (((qT (kB s sn) (kB s2 sn2)) : Nat) : Int))
     ·have hx33 : ((qT (kB s sn) (kB s2 sn2) : Nat) = 0 ∧ oS (oS (oS (yY k k2) (qT (kB r rn) (kB r2 rn2)) 2) (ka0 (u5 m m2 c)) 4) (qT (kB s sn) (kB s2 sn2)) 8 = oS (oS (yY k k2) (qT (kB r rn) (kB r2 rn2)) 2) (ka0 (u5 m m2 c)) 4) ∨ (1 ≤ qT (kB s sn) (kB s2 sn2) ∧ oS (oS (oS (yY k k2) (qT (kB r rn) (kB r2 rn2)) 2) (ka0 (u5 m m2 c)) 4) (qT (kB s sn) (kB s2 sn2)) 8 = oS (oS (yY k k2) (qT (kB r rn) (kB r2 rn2)) 2) (ka0 (u5 m m2 c)) 4 + 8) := l9 _ _ _
      have hx34 : 0 ≤ oS (oS (yY k k2) (qT (kB r rn) (kB r2 rn2)) 2) (ka0 (u5 m m2 c)) 4 ∧ oS (oS (yY k k2) (qT (kB r rn) (kB r2 rn2)) 2) (ka0 (u5 m m2 c)) 4 ≤ 7 := (by have h9 := lV k k2; have h8 := l9 (yY k k2) (qT (kB r rn) (kB r2 rn2)) 2; have h7 := l9 (oS (yY k k2) (qT (kB r rn) (kB r2 rn2)) 2) (ka0 (u5 m m2 c)) 4; omega)
      have hx35 : ((ka0 (uN (kB s sn) (kB s2 sn2))) = ((qT (kB s sn) (kB s2 sn2)) * 2)) := u4 _ _
      have hx36 : ((qT (kB s sn) (kB s2 sn2)) ≤ 64) := aG _ _
      refine kI (qN 4 [.call [] (.e (.agg [.d (dl (uN (kB s sn) (kB s2 sn2)) (qT (kB s sn) (kB s2 sn2)))])) [] 0 [] none, .no, .no, .b true]) ((_) ∧ (((0 : Int) < (qT (kB s sn) (kB s2 sn2) : Int)))) [(5, iV (oS (oS (yY k k2) (qT (kB r rn) (kB r2 rn2)) 2) (ka0 (u5 m m2 c)) 4)), (40, bV true)] [] 2 ⟨(gJ s s2 sn sn2 zo zo zo zo), zo⟩ ?_
      refine zt ?_
      refine yK [.no, .i ((oS (oS (yY k k2) (qT (kB r rn) (kB r2 rn2)) 2) (ka0 (u5 m m2 c)) 4) + 8), .no] (qM .or .i64 (oS (oS (yY k k2) (qT (kB r rn) (kB r2 rn2)) 2) (ka0 (u5 m m2 c)) 4) 8 = ((oS (oS (yY k k2) (qT (kB r rn) (kB r2 rn2)) 2) (ka0 (u5 m m2 c)) 4) + 8)) [(5, iV ((oS (oS (yY k k2) (qT (kB r rn) (kB r2 rn2)) 2) (ka0 (u5 m m2 c)) 4) + 8))] (v3r zo) ?_
      exact Rd.of () [] (P := (((oS (oS (oS (yY k k2) (qT (kB r rn) (kB r2 rn2)) 2) (ka0 (u5 m m2 c)) 4) (qT (kB s sn) (kB s2 sn2)) 8) : Int) = ((oS (oS (yY k k2) (qT (kB r rn) (kB r2 rn2)) 2) (ka0 (u5 m m2 c)) 4) + 8))) zk bH True.intro
     ·have hx37 : ((qT (kB s sn) (kB s2 sn2) : Nat) = 0 ∧ oS (oS (oS (yY k k2) (qT (kB r rn) (kB r2 rn2)) 2) (ka0 (u5 m m2 c)) 4) (qT (kB s sn) (kB s2 sn2)) 8 = oS (oS (yY k k2) (qT (kB r rn) (kB r2 rn2)) 2) (ka0 (u5 m m2 c)) 4) ∨ (1 ≤ qT (kB s sn) (kB s2 sn2) ∧ oS (oS (oS (yY k k2) (qT (kB r rn) (kB r2 rn2)) 2) (ka0 (u5 m m2 c)) 4) (qT (kB s sn) (kB s2 sn2)) 8 = oS (oS (yY k k2) (qT (kB r rn) (kB r2 rn2)) 2) (ka0 (u5 m m2 c)) 4 + 8) := l9 _ _ _
      have hx38 : 0 ≤ oS (oS (yY k k2) (qT (kB r rn) (kB r2 rn2)) 2) (ka0 (u5 m m2 c)) 4 ∧ oS (oS (yY k k2) (qT (kB r rn) (kB r2 rn2)) 2) (ka0 (u5 m m2 c)) 4 ≤ 7 := (by have h9 := lV k k2; have h8 := l9 (yY k k2) (qT (kB r rn) (kB r2 rn2)) 2; have h7 := l9 (oS (yY k k2) (qT (kB r rn) (kB r2 rn2)) 2) (ka0 (u5 m m2 c)) 4; omega)
      have hx39 : ((ka0 (uN (kB s sn) (kB s2 sn2))) = ((qT (kB s sn) (kB s2 sn2)) * 2)) := u4 _ _
      have hx40 : ((qT (kB s sn) (kB s2 sn2)) ≤ 64) := aG _ _
      refine kI (qN 4 [.call [] (.e (.agg [.d (dl (uN (kB s sn) (kB s2 sn2)) (qT (kB s sn) (kB s2 sn2)))])) [] 0 [] none, .no, .no, .b false]) ((_) ∧ (¬ ((0 : Int) < (qT (kB s sn) (kB s2 sn2) : Int)))) [(5, iV (oS (oS (yY k k2) (qT (kB r rn) (kB r2 rn2)) 2) (ka0 (u5 m m2 c)) 4)), (40, bV false)] [] 2 ⟨(gJ s s2 sn sn2 zo zo zo zo), zo⟩ ?_
      refine u9 ?_
      exact Rd.of () [] (P := (((oS (oS (oS (yY k k2) (qT (kB r rn) (kB r2 rn2)) 2) (ka0 (u5 m m2 c)) 4) (qT (kB s sn) (kB s2 sn2)) 8) : Int) = (oS (oS (yY k k2) (qT (kB r rn) (kB r2 rn2)) 2) (ka0 (u5 m m2 c)) 4))) zk bH True.intro
    ·refine kI [.no, .no] True [(4, iV (oS (oS (oS (yY k k2) (qT (kB r rn) (kB r2 rn2)) 2) (ka0 (u5 m m2 c)) 4) (qT (kB s sn) (kB s2 sn2)) 8))] [] 2 trivial ?_
     refine AW.ret ?_
     exact EndP.of (.inr rfl) [] (P := (((wE k r rn m c s sn k2 r2 rn2 m2 s2 sn2) : Int) = (oS (oS (oS (yY k k2) (qT (kB r rn) (kB r2 rn2)) 2) (ka0 (u5 m m2 c)) 4) (qT (kB s sn) (kB s2 sn2)) 8))) zk (by first | rfl | omega)
theorem jT {p : Prop} (h : p := by first | exact decide_eq_true (by omega) | exact decide_eq_false (by omega)) : p := h
theorem v2x (l : List Int) (n : Nat) (v : Int) (hn : ka0 l = n) (h1 : n ≤ 1000000) : Fun 136 [.c (.d (D.sl (dI .i64 l) n)), iE v] (kF []) 0 (u1 (D.lit (.bool (ctB l n v)))) (kF []) 0 := by
 refine Fun.mk (n := 9) Tryz.func136 rfl rfl (ka4 rfl) ?_
 intro cx hcx
 refine kI [.no] True [(0, sV .i64 l n), (1, iV v)] [] 0 trivial ?_
 by_cases hx2 : ((0 : Int) ≤ (uT l v n))
 ·have hx3 : ((((-1) : Int) ≤ (uT l v n)) ∧ ((uT l v n) < ((n : Nat) : Int))) := bO l v n
  refine kS [.no, .no, .call [] (iV (uT l v n)) [] 0 [] none, .b true, .no] ((_) ∧ (((0 : Int) ≤ (uT l v n)))) [(4, bV true)] ⟨(oB l n v zo zo), zo⟩ ?_
  refine AW.ret ?_
  exact EndP.of (.inr rfl) [] (P := ((ctB l n v) = true)) zk jT
 ·have hx4 : ((((-1) : Int) ≤ (uT l v n)) ∧ ((uT l v n) < ((n : Nat) : Int))) := bO l v n
  refine kS [.no, .no, .call [] (iV (uT l v n)) [] 0 [] none, .b false, .no] ((_) ∧ (¬ ((0 : Int) ≤ (uT l v n)))) [(4, bV false)] ⟨(oB l n v zo zo), zo⟩ ?_
  refine AW.ret ?_
  exact EndP.of (.inr rfl) [] (P := ((ctB l n v) = false)) zk jT
theorem u5w (d s : Int)  : Fun 137 [iE d, .c (.ptr 0 0)] (kF [(0, some (3, .ds [iD s]))]) 1 (u1 (D.lit (.bool (stB d s)))) (kF [(0, some (3, .ds [iD s]))]) 1 := by
 refine Fun.mk (n := 9) Tryz.func137 rfl rfl (ka4 rfl) ?_
 intro cx hcx
 refine kI [.no] True [(0, iV d), (1, rV 0 0)] [(0, some (3, .ds [iD s]))] 1 trivial ?_
 by_cases hx1 : ((qH d s) = s)
 ·refine kS [.no, .no, .i (qH d s), .no, .b true, .no] ((qM .and .i64 d s = (qH d s)) ∧ (((qH d s) = s))) [(3, bV true)] ⟨rfl, zo⟩ ?_
  refine AW.ret ?_
  exact EndP.of (.inr rfl) [] (P := ((stB d s) = true) ∧ (kM [iD s])) zk ⟨jT, rfl⟩
 ·refine kS [.no, .no, .i (qH d s), .no, .b false, .no] ((qM .and .i64 d s = (qH d s)) ∧ (¬ ((qH d s) = s))) [(3, bV false)] ⟨rfl, zo⟩ ?_
  refine AW.ret ?_
  exact EndP.of (.inr rfl) [] (P := ((stB d s) = false) ∧ (kM [iD s])) zk ⟨jT, rfl⟩
theorem u5v (l : List Int) (n : Nat) (s : Int) (hn : ka0 l = n) (h1 : n ≤ 1000000) : Fun 100 [.c (.d (D.sl (dI .i64 l) n)), .c (.fn 137 [(0, 0)])] (kF [(0, some (3, .ds [iD s]))]) 1 (iV (lX l s n)) (kF [(0, some (3, .ds [iD s]))]) 1 := by
 refine Fun.mk (n := 19) Tryz.func100 rfl rfl (ka4 rfl) ?_
 intro cx hcx
 refine kI [.no] True [(0, sV .i64 l n), (1, .e (.c (.fn 137 [(0, 0)])))] [(0, some (3, .ds [iD s]))] 1 trivial ?_
 refine AW.seq ?_
 refine kS [.no, .no, .no] True [(0, sV .i64 l n), (1, .e (.c (.fn 137 [(0, 0)]))), (7, uV n), (8, iV 0)] trivial ?_
 refine AW.block ?_
 refine qF 1 hcx (fun (x : {x : Nat // match x with | k => (k ≤ n) ∧ (lX l s k = -1)}) => match x with | ⟨k, _⟩ => (⟨[(0, sV .i64 l n), (1, .e (.c (.fn 137 [(0, 0)]))), (7, uV n), (8, uV k)], [(0, some (3, .ds [iD s]))], 1⟩ : ES)) (fun x => match x with | ⟨k, _⟩ => n - k) ⟨(0 : Nat), ⟨aW, rfl⟩⟩ [] (P := (kM (dI .i64 l)) ∧ (kH n) ∧ (kP (n : Int)) ∧ (kP 0) ∧ (kM [iD s])) zk ⟨rfl, rfl, rfl, rfl, rfl⟩ ?_
 rintro ⟨k, hinv0⟩
 obtain ⟨hk, hi⟩ : (k ≤ n) ∧ (lX l s k = -1) := hinv0
 refine uG (l := [(0, sV .i64 l n), (1, .e (.c (.fn 137 [(0, 0)]))), (7, uV n), (8, uV k)]) (g := [(0, some (3, .ds [iD s]))]) (nx := 1) rfl rfl rfl ?_
 by_cases hx1 : (((k : Nat) : Int) < ((n : Nat) : Int))
 ·refine kI [.b true] (((k : Int) < (n : Int))) [(0, sV .i64 l n), (1, .e (.c (.fn 137 [(0, 0)]))), (7, uV n), (8, uV k), (9, bV true)] [(0, some (3, .ds [iD s]))] 1 zo ?_
  refine AW.seq ?_
  refine vO ?_
  refine AW.seq ?_
  refine AW.block ?_
  refine kS [.no, .no] True [(0, sV .i64 l n), (1, .e (.c (.fn 137 [(0, 0)]))), (5, uV k), (7, uV n), (8, uV k)] trivial ?_
  rcases kb3 (stB (ka1 l k 0) s) with hx2 | hx2
  ·refine kS [.no, .no, .no, .n k, .d (D.lit (.int .i64 (ka1 l k 0))), .call [0] (bV true) [(0, some (3, .ds [iD s]))] 1 [] none] ((kP (k : Int)) ∧ (k < n) ∧ ((ka3 k (dI .i64 l))[0]? = some (D.lit (.int .i64 (ka1 l k 0)))) ∧ (Fun 137 [iE (ka1 l k 0), .c (.ptr 0 0)] (kF [(0, some (3, .ds [iD s]))]) 1 (bV true) (kF [(0, some (3, .ds [iD s]))]) 1)) [(0, sV .i64 l n), (1, .e (.c (.fn 137 [(0, 0)]))), (5, uV k), (7, uV n), (8, uV k), (16, bV true)] ⟨rfl, zo, (yG _ _ _ dK), (by have h0 := (u5w (ka1 l k 0) s); rw [hx2] at h0; exact h0)⟩ ?_
   refine zt ?_
   refine kS [.no, .no] True [(4, uV k)] trivial ?_
   refine AW.ret ?_
   exact EndP.of (.inr rfl) [] (P := (((lX l s n) : Int) = (k : Int)) ∧ (kM [iD s])) zk ⟨(by first | rfl | exact k2s hi (by assumption) zo | (rw [show n = k by omega]; exact hi) | omega), rfl⟩
  ·refine kS [.no, .no, .no, .n k, .d (D.lit (.int .i64 (ka1 l k 0))), .call [0] (bV false) [(0, some (3, .ds [iD s]))] 1 [] none] ((kP (k : Int)) ∧ (k < n) ∧ ((ka3 k (dI .i64 l))[0]? = some (D.lit (.int .i64 (ka1 l k 0)))) ∧ (Fun 137 [iE (ka1 l k 0), .c (.ptr 0 0)] (kF [(0, some (3, .ds [iD s]))]) 1 (bV false) (kF [(0, some (3, .ds [iD s]))]) 1)) [(0, sV .i64 l n), (1, .e (.c (.fn 137 [(0, 0)]))), (5, uV k), (7, uV n), (8, uV k), (16, bV false)] ⟨rfl, zo, (yG _ _ _ dK), (by have h0 := (u5w (ka1 l k 0) s); rw [hx2] at h0; exact h0)⟩ ?_
   refine u9 ?_
   refine yK [.w, .no] (yF ((k : Int) + 1)) [(0, sV .i64 l n), (1, .e (.c (.fn 137 [(0, 0)]))), (7, uV n), (8, iV (↑k + 1))] ⟨by omega, by omega⟩ ?_
   exact Rd.of ⟨((k + 1) : Nat), ⟨aW, (u4i hi (by assumption))⟩⟩ [] (P := (kM (dI .i64 l)) ∧ (kH n) ∧ (kP (n : Int)) ∧ (cU k) ∧ (kM [iD s])) zk ⟨rfl, rfl, rfl, bH, rfl⟩ (show n - (k + 1) < n - k from eF)
 ·refine kI [.b false] (¬ ((k : Int) < (n : Int))) [(0, sV .i64 l n), (1, .e (.c (.fn 137 [(0, 0)]))), (7, uV n), (8, uV k), (9, bV false)] [(0, some (3, .ds [iD s]))] 1 zo ?_
  refine AW.seq ?_
  refine zf ?_
  refine AW.exit ?_
  refine kI [.no] True [(4, iV (-1))] [(0, some (3, .ds [iD s]))] 1 trivial ?_
  refine AW.ret ?_
  exact EndP.of (.inr rfl) [] (P := (((lX l s n) : Int) = (-1)) ∧ (kM [iD s])) zk ⟨(by first | rfl | exact k2s hi (by assumption) zo | (rw [show n = k by omega]; exact hi) | omega), rfl⟩
theorem u8z (l : List Int) (n : Nat) (s : Int) (hn : ka0 l = n) (h1 : n ≤ 1000000) : Fun 66 [.c (.d (D.sl (dI .i64 l) n)), .c (.fn 137 [(0, 0)])] (kF [(0, some (3, .ds [iD s]))]) 1 (u1 (D.lit (.bool (o4 l n s)))) (kF [(0, some (3, .ds [iD s]))]) 1 := by
 refine Fun.mk (n := 9) Tryz.func66 rfl rfl (ka4 rfl) ?_
 intro cx hcx
 refine kI [.no] True [(0, sV .i64 l n), (1, .e (.c (.fn 137 [(0, 0)])))] [(0, some (3, .ds [iD s]))] 1 trivial ?_
 by_cases hx1 : ((0 : Int) ≤ (lX l s n))
 ·refine kS [.no, .no, .call [0] (iV (lX l s n)) [(0, some (3, .ds [iD s]))] 1 [] none, .b true, .no] ((_) ∧ (((0 : Int) ≤ (lX l s n)))) [(4, bV true)] ⟨(u5v l n s zo zo), zo⟩ ?_
  refine AW.ret ?_
  exact EndP.of (.inr rfl) [] (P := ((o4 l n s) = true) ∧ (kM [iD s])) zk ⟨jT, rfl⟩
 ·refine kS [.no, .no, .call [0] (iV (lX l s n)) [(0, some (3, .ds [iD s]))] 1 [] none, .b false, .no] ((_) ∧ (¬ ((0 : Int) ≤ (lX l s n)))) [(4, bV false)] ⟨(u5v l n s zo zo), zo⟩ ?_
  refine AW.ret ?_
  exact EndP.of (.inr rfl) [] (P := ((o4 l n s) = false) ∧ (kM [iD s])) zk ⟨jT, rfl⟩
theorem u8y (x : Int) (h1 : 0 ≤ x ∧ x ≤ 15) : Fun 102 [.c (.d (D.lit (.int .u64 x)))] (kF []) 0 (iV (uO x)) (kF []) 0 := by
 have hxr : (0 ≤ wH x ∧ wH x ≤ 5) ∧ (0 ≤ wG x ∧ wG x ≤ 5) ∧ (0 ≤ pN x ∧ pN x ≤ 2) ∧ (0 ≤ pM x ∧ pM x ≤ 2) ∧ 0 ≤ uO x ∧ uO x ≤ 4 := v3u h1
 refine Fun.mk (n := 35) Tryz.func102 rfl rfl (ka4 rfl) ?_
 intro cx hcx
 refine kI [.no] True [(0, u1 (D.lit (.int .u64 x)))] [] 0 trivial ?_
 refine kS [.no, .n 1, .i (wH x), .no, .i (wG x), .w, .no] ((kP 1) ∧ ((1 : Nat) ≤ 64) ∧ (qM .and .u64 (x / 2) 6148914691236517205 = (wH x)) ∧ (qM .and .u64 x 6148914691236517205 = (wG x)) ∧ (0 ≤ ((wH x) + (wG x)) ∧ ((wH x) + (wG x)) ≤ 18446744073709551615)) [(0, u1 (D.lit (.int .u64 ((wH x) + (wG x)))))] ⟨rfl, zo, (v40 h1), (v3z h1), ⟨by omega, by omega⟩⟩ ?_
 refine kS [.no, .n 2, .i (pN x), .no, .i (pM x), .w, .no] ((kP 2) ∧ ((2 : Nat) ≤ 64) ∧ (qM .and .u64 (((wH x) + (wG x)) / 4) 3689348814741910323 = (pN x)) ∧ (qM .and .u64 ((wH x) + (wG x)) 3689348814741910323 = (pM x)) ∧ (0 ≤ ((pN x) + (pM x)) ∧ ((pN x) + (pM x)) ≤ 18446744073709551615)) [(0, u1 (D.lit (.int .u64 ((pN x) + (pM x)))))] ⟨rfl, zo, (v3y h1), (v3x h1), ⟨by omega, by omega⟩⟩ ?_
 refine kS [.no, .n 4, .no, .w, .i (uO x), .no] ((kP 4) ∧ ((4 : Nat) ≤ 64) ∧ (0 ≤ ((((pN x) + (pM x)) / 16) + ((pN x) + (pM x))) ∧ ((((pN x) + (pM x)) / 16) + ((pN x) + (pM x))) ≤ 18446744073709551615) ∧ (qM .and .u64 ((((pN x) + (pM x)) / 16) + ((pN x) + (pM x))) 1085102592571150095 = (uO x))) [(0, u1 (D.lit (.int .u64 (uO x))))] ⟨rfl, zo, ⟨by omega, by omega⟩, (v3w h1 zo)⟩ ?_
 refine kS [.no, .no, .n 8, .w, .no] ((kP 8) ∧ ((8 : Nat) ≤ 64) ∧ (0 ≤ ((uO x) + ((uO x) / 256)) ∧ ((uO x) + ((uO x) / 256)) ≤ 18446744073709551615)) [(0, u1 (D.lit (.int .u64 ((uO x) + ((uO x) / 256)))))] ⟨rfl, zo, ⟨by omega, by omega⟩⟩ ?_
 refine kS [.no, .no, .n 16, .w, .no] ((kP 16) ∧ ((16 : Nat) ≤ 64) ∧ (0 ≤ (((uO x) + ((uO x) / 256)) + (((uO x) + ((uO x) / 256)) / 65536)) ∧ (((uO x) + ((uO x) / 256)) + (((uO x) + ((uO x) / 256)) / 65536)) ≤ 18446744073709551615)) [(0, u1 (D.lit (.int .u64 (((uO x) + ((uO x) / 256)) + (((uO x) + ((uO x) / 256)) / 65536)))))] ⟨rfl, zo, ⟨by omega, by omega⟩⟩ ?_
 refine kS [.no, .no, .n 32, .w, .no] ((kP 32) ∧ ((32 : Nat) ≤ 64) ∧ (0 ≤ ((((uO x) + ((uO x) / 256)) + (((uO x) + ((uO x) / 256)) / 65536)) + ((((uO x) + ((uO x) / 256)) + (((uO x) + ((uO x) / 256)) / 65536)) / 4294967296)) ∧ ((((uO x) + ((uO x) / 256)) + (((uO x) + ((uO x) / 256)) / 65536)) + ((((uO x) + ((uO x) / 256)) + (((uO x) + ((uO x) / 256)) / 65536)) / 4294967296)) ≤ 18446744073709551615)) [(0, u1 (D.lit (.int .u64 ((((uO x) + ((uO x) / 256)) + (((uO x) + ((uO x) / 256)) / 65536)) + ((((uO x) + ((uO x) / 256)) + (((uO x) + ((uO x) / 256)) / 65536)) / 4294967296)))))] ⟨rfl, zo, ⟨by omega, by omega⟩⟩ ?_
 refine kS [.no, .w, .i (uO x), .no] (((-9223372036854775808) ≤ ((((uO x) + ((uO x) / 256)) + (((uO x) + ((uO x) / 256)) / 65536)) + ((((uO x) + ((uO x) / 256)) + (((uO x) + ((uO x) / 256)) / 65536)) / 4294967296)) ∧ ((((uO x) + ((uO x) / 256)) + (((uO x) + ((uO x) / 256)) / 65536)) + ((((uO x) + ((uO x) / 256)) + (((uO x) + ((uO x) / 256)) / 65536)) / 4294967296)) ≤ 9223372036854775807) ∧ (qM .and .i64 ((((uO x) + ((uO x) / 256)) + (((uO x) + ((uO x) / 256)) / 65536)) + ((((uO x) + ((uO x) / 256)) + (((uO x) + ((uO x) / 256)) / 65536)) / 4294967296)) 127 = (uO x))) [(2, iV (uO x))] ⟨⟨by omega, by omega⟩, (v3v h1 zo)⟩ ?_
 refine AW.ret ?_
 exact EndP.of (.inr rfl) [] (P := (kP (uO x))) zk rfl
theorem z4 (x : Int) (h1 : 0 ≤ x ∧ x ≤ 15) : Fun 67 [.c (.d (D.lit (.int .u64 x)))] (kF []) 0 (iV (uO x)) (kF []) 0 := by
 refine Fun.mk (n := 8) Tryz.func67 rfl rfl (ka4 rfl) ?_
 intro cx hcx
 refine kI [.no] True [(0, u1 (D.lit (.int .u64 x)))] [] 0 trivial ?_
 refine AW.seq ?_
 refine lS (.lit rfl) ?_
 refine AW.skip ?_
 refine kS [.no, .call [] (iV (uO x)) [] 0 [] none, .no] _ [(2, iV (uO x))] (u8y x zo) ?_
 refine AW.ret ?_
 exact EndP.of (.inr rfl) [] (P := (kP (uO x))) zk rfl
abbrev eM (a : List Bx) (i : Nat) : BC := .ds [iD (kT (kL a) i), D.sl (dI .i64 (qE (kL a) i)) (k9 (kL a) i), D.sl (kK (kW (kL a) i)) (ka0 (kW (kL a) i)), D.sl (dI .i64 (qD (kL a) i)) (k8 (kL a) i)]
theorem dH (a b : List Bx) (n m : Nat) (hn : ka0 a = n) (hm : ka0 b = m) (h1 : n ≤ 1000) (h2 : m ≤ 1000) (hW : BsW a) (hV : BsW b) : Fun 99 [.c (.d (D.sl (kU a) n)), .c (.d (D.sl (kU b) m))] (kF []) 0 (iV (vV a b)) (kF []) 0 := by
 have hL1 : ka0 (kL a) ≤ 64 ∧ ka0 (kL b) ≤ 64 := ⟨u03 a, u03 b⟩
 refine Fun.mk (n := 63) Tryz.func99 rfl rfl (ka4 rfl) ?_
 intro cx hcx
 refine kI [.no] True [(0, .e (qB a n)), (1, .e (qB b m))] [] 0 trivial ?_
 refine kS [.no] True [(0, .e (qB a n)), (1, .e (qB b m)), (5, nV)] trivial ?_
 refine AW.seq ?_
 have hx1 : ((ka0 (kL a)) ≤ n) := (by have h9 := lM a; omega)
 refine kS [.no, .call [] (.e (y5 (kL a))) [] 0 [] none, .no, .no] _ [(1, .e (qB b m)), (5, nV), (14, .e (y5 (kL a))), (15, uV (ka0 (kL a))), (16, iV 0)] (jN a n zo zo (qJ : BsW a)) ?_
 refine AW.block ?_
 refine AW.adoptS 5 1 3 rfl ?_
 refine qF 0 hcx (fun (x : {x : Nat × Nat × List Int // match x with | (i, q, o) => (i ≤ ka0 (kL a)) ∧ (pJ (kL a) (kL b) i = o) ∧ (ka0 o = q) ∧ (q ≤ i * 64)}) => match x with | ⟨(i, q, o), _⟩ => (⟨[(1, .e (qB b m)), (5, oV 1 0 q 1), (14, .e (y5 (kL a))), (15, uV (ka0 (kL a))), (16, uV i)], [(1, some (3, .ds (dI .i64 o)))], 2⟩ : ES)) (fun x => match x with | ⟨(i, q, o), _⟩ => ka0 (kL a) - i) ⟨((0 : Nat), (0 : Nat), (([] : List Int) : List Int)), ⟨aW, rfl, rfl, zo⟩⟩ [(1, 0)] (P := (kM (kU b)) ∧ (kH m) ∧ (kH 0) ∧ (kH 0) ∧ (kM (kU (kL a))) ∧ (kH (ka0 (kL a))) ∧ (kP (ka0 (kL a) : Int)) ∧ (kP 0) ∧ (((dI .i64 ([] : List Int)) : List D) = ([] : List D))) zk ⟨rfl, rfl, rfl, rfl, rfl, rfl, rfl, rfl, (by first | rfl | with_reducible assumption)⟩ ?_
 rintro ⟨⟨i, q, o⟩, hinv0⟩
 obtain ⟨hi, ho, hq, hqm⟩ : (i ≤ ka0 (kL a)) ∧ (pJ (kL a) (kL b) i = o) ∧ (ka0 o = q) ∧ (q ≤ i * 64) := hinv0
 refine uG (l := [(1, .e (qB b m)), (5, oV 1 0 q 1), (14, .e (y5 (kL a))), (15, uV (ka0 (kL a))), (16, uV i)]) (g := [(1, some (3, .ds (dI .i64 o)))]) (nx := 2) rfl rfl rfl ?_
 by_cases hx2 : (((i : Nat) : Int) < (((ka0 (kL a)) : Nat) : Int))
 ·refine kI [.b true] (((i : Int) < (ka0 (kL a) : Int))) [(1, .e (qB b m)), (5, oV 1 0 q 1), (14, .e (y5 (kL a))), (15, uV (ka0 (kL a))), (16, uV i), (17, bV true)] [(1, some (3, .ds (dI .i64 o)))] 2 zo ?_
  refine AW.seq ?_
  refine vO ?_
  refine AW.seq ?_
  refine AW.block ?_
  obtain ⟨hx3, hx4, hx5, hx6, hx7⟩ := BsW.at (eC (qJ : BsW a)) (i)
  have hx8 : ((1 : Nat) ≤ (ka0 (kW (kL a) i))) := tR zo
  refine kI [.n i, .ds (yU (kL a) i), .no, .no] ((kP (i : Int)) ∧ (i < (ka0 (kL a))) ∧ (List.take 4 (ka3 (i * 4) (kU (kL a))) = (yU (kL a) i)) ∧ (((yU (kL a) i) : List D).length = 4)) [(1, .e (qB b m)), (5, oV 1 0 q 1), (7, rV 2 0), (14, .e (y5 (kL a))), (15, uV (ka0 (kL a))), (16, uV i)] [(1, some (3, .ds (dI .i64 o))), (2, some (63, (eM a i)))] 3 ⟨rfl, zo, (vN k06), rfl⟩ ?_
  have hx9 : ((ka0 (kL b)) ≤ m) := (by have h9 := lM b; omega)
  refine kS [.no, .call [] (.e (y5 (kL b))) [] 0 [] none, .no, .no] _ [(1, .e (qB b m)), (5, oV 1 0 q 1), (7, rV 2 0), (14, .e (y5 (kL a))), (15, uV (ka0 (kL a))), (16, uV i), (21, .e (y5 (kL b))), (22, uV (ka0 (kL b))), (23, iV 0)] (jN b m zo zo (qJ : BsW b)) ?_
  refine AW.block ?_
  refine qF 0 hcx (fun (x : {x : Nat × Nat × List Int // match x with | (j, p, x) => (j ≤ ka0 (kL b)) ∧ (prJ (kL a) (kL b) i j = x) ∧ (ka0 x = p) ∧ (p ≤ i * 64 + j)}) => match x with | ⟨(j, p, x), _⟩ => (⟨[(1, .e (qB b m)), (5, oV 3 0 p 1), (7, rV 2 0), (14, .e (y5 (kL a))), (15, uV (ka0 (kL a))), (16, uV i), (21, .e (y5 (kL b))), (22, uV (ka0 (kL b))), (23, uV j)], [(3, some (3, .ds (dI .i64 x))), (2, some (63, (eM a i)))], 4⟩ : ES)) (fun x => match x with | ⟨(j, p, x), _⟩ => ka0 (kL b) - j) ⟨((0 : Nat), (q : Nat), (o : List Int)), ⟨aW, (v0h ho), (by first | assumption | omega), zo⟩⟩ [(3, 1)] (P := (kM (kU b)) ∧ (kH m) ∧ (kH 0) ∧ (kH q) ∧ (kH 0) ∧ (kM (kU (kL a))) ∧ (kH (ka0 (kL a))) ∧ (kP (ka0 (kL a) : Int)) ∧ (kP (i : Int)) ∧ (kM (kU (kL b))) ∧ (kH (ka0 (kL b))) ∧ (kP (ka0 (kL b) : Int)) ∧ (kP 0) ∧ (kM (dI .i64 o)) ∧ (kM (yU (kL a) i))) zk ⟨rfl, rfl, rfl, rfl, rfl, rfl, rfl, rfl, rfl, rfl, rfl, rfl, rfl, rfl, rfl⟩ ?_
  rintro ⟨⟨j, p, x⟩, hinv1⟩
  obtain ⟨hj, hJ, hp, hpm⟩ : (j ≤ ka0 (kL b)) ∧ (prJ (kL a) (kL b) i j = x) ∧ (ka0 x = p) ∧ (p ≤ i * 64 + j) := hinv1
  refine uG (l := [(1, .e (qB b m)), (5, oV 3 0 p 1), (7, rV 2 0), (14, .e (y5 (kL a))), (15, uV (ka0 (kL a))), (16, uV i), (21, .e (y5 (kL b))), (22, uV (ka0 (kL b))), (23, uV j)]) (g := [(3, some (3, .ds (dI .i64 x))), (2, some (63, (eM a i)))]) (nx := 4) rfl rfl rfl ?_
  by_cases hx10 : (((j : Nat) : Int) < (((ka0 (kL b)) : Nat) : Int))
  ·refine kI [.b true] (((j : Int) < (ka0 (kL b) : Int))) [(1, .e (qB b m)), (5, oV 3 0 p 1), (7, rV 2 0), (14, .e (y5 (kL a))), (15, uV (ka0 (kL a))), (16, uV i), (21, .e (y5 (kL b))), (22, uV (ka0 (kL b))), (23, uV j), (24, bV true)] [(2, some (63, (eM a i))), (3, some (3, .ds (dI .i64 x)))] 4 zo ?_
   refine AW.seq ?_
   refine vO ?_
   refine AW.seq ?_
   refine AW.block ?_
   obtain ⟨hx11, hx12, hx13, hx14, hx15⟩ := BsW.at (eC (qJ : BsW b)) (j)
   have hx16 : ((1 : Nat) ≤ (ka0 (kW (kL b) j))) := tR zo
   refine kI [.n j, .ds (yU (kL b) j), .no, .no] ((kP (j : Int)) ∧ (j < (ka0 (kL b))) ∧ (List.take 4 (ka3 (j * 4) (kU (kL b))) = (yU (kL b) j)) ∧ (((yU (kL b) j) : List D).length = 4)) [(1, .e (qB b m)), (5, oV 3 0 p 1), (7, rV 2 0), (9, rV 4 0), (14, .e (y5 (kL a))), (15, uV (ka0 (kL a))), (16, uV i), (21, .e (y5 (kL b))), (22, uV (ka0 (kL b))), (23, uV j)] [(2, some (63, (eM a i))), (3, some (3, .ds (dI .i64 x))), (4, some (63, .ds (yU (kL b) j)))] 5 ⟨rfl, zo, (vN k06), rfl⟩ ?_
   have hx17 : (((0 : Int) ≤ (wE (kT (kL a) i) (qE (kL a) i) (k9 (kL a) i) (kW (kL a) i) (ka0 (kW (kL a) i)) (qD (kL a) i) (k8 (kL a) i) (kT (kL b) j) (qE (kL b) j) (k9 (kL b) j) (kW (kL b) j) (qD (kL b) j) (k8 (kL b) j))) ∧ ((wE (kT (kL a) i) (qE (kL a) i) (k9 (kL a) i) (kW (kL a) i) (ka0 (kW (kL a) i)) (qD (kL a) i) (k8 (kL a) i) (kT (kL b) j) (qE (kL b) j) (k9 (kL b) j) (kW (kL b) j) (qD (kL b) j) (k8 (kL b) j)) ≤ 15)) := u1e ..
   refine aB [.no, .no, .no, .call [] (iV (wE (kT (kL a) i) (qE (kL a) i) (k9 (kL a) i) (kW (kL a) i) (ka0 (kW (kL a) i)) (qD (kL a) i) (k8 (kL a) i) (kT (kL b) j) (qE (kL b) j) (k9 (kL b) j) (kW (kL b) j) (qD (kL b) j) (k8 (kL b) j))) [] 0 [] none, .no, .ap none (p + 1) (dI .i64 (x ++ ([(wE (kT (kL a) i) (qE (kL a) i) (k9 (kL a) i) (kW (kL a) i) (ka0 (kW (kL a) i)) (qD (kL a) i) (k8 (kL a) i) (kT (kL b) j) (qE (kL b) j) (k9 (kL b) j) (kW (kL b) j) (qD (kL b) j) (k8 (kL b) j))] : List Int))), .no] ((_) ∧ ([iD (wE (kT (kL a) i) (qE (kL a) i) (k9 (kL a) i) (kW (kL a) i) (ka0 (kW (kL a) i)) (qD (kL a) i) (k8 (kL a) i) (kT (kL b) j) (qE (kL b) j) (k9 (kL b) j) (kW (kL b) j) (qD (kL b) j) (k8 (kL b) j))].length = 1 * 1) ∧ (((dI .i64 x) : List D).length = p * 1) ∧ ((p + 1) * 8 ≤ 140737488355328) ∧ (p + 1 = (p + 1)) ∧ (((dI .i64 x) : List D) ++ [iD (wE (kT (kL a) i) (qE (kL a) i) (k9 (kL a) i) (kW (kL a) i) (ka0 (kW (kL a) i)) (qD (kL a) i) (k8 (kL a) i) (kT (kL b) j) (qE (kL b) j) (k9 (kL b) j) (kW (kL b) j) (qD (kL b) j) (k8 (kL b) j))] = (dI .i64 (x ++ ([(wE (kT (kL a) i) (qE (kL a) i) (k9 (kL a) i) (kW (kL a) i) (ka0 (kW (kL a) i)) (qD (kL a) i) (k8 (kL a) i) (kT (kL b) j) (qE (kL b) j) (k9 (kL b) j) (kW (kL b) j) (qD (kL b) j) (k8 (kL b) j))] : List Int))))) [(1, .e (qB b m)), (5, oV 6 0 (p + 1) 1), (7, rV 2 0), (14, .e (y5 (kL a))), (15, uV (ka0 (kL a))), (16, uV i), (21, .e (y5 (kL b))), (22, uV (ka0 (kL b))), (23, uV j)] [(2, some (63, (eM a i))), (6, some (3, .ds (dI .i64 (x ++ ([(wE (kT (kL a) i) (qE (kL a) i) (k9 (kL a) i) (kW (kL a) i) (ka0 (kW (kL a) i)) (qD (kL a) i) (k8 (kL a) i) (kT (kL b) j) (qE (kL b) j) (k9 (kL b) j) (kW (kL b) j) (qD (kL b) j) (k8 (kL b) j))] : List Int)))))] 7 ⟨(v4z (kT (kL a) i) (qE (kL a) i) (k9 (kL a) i) (kW (kL a) i) (ka0 (kW (kL a) i)) (qD (kL a) i) (k8 (kL a) i) (kT (kL b) j) (qE (kL b) j) (k9 (kL b) j) (kW (kL b) j) (ka0 (kW (kL b) j)) (qD (kL b) j) (k8 (kL b) j) bI bI rfl bI bI bI (BsW.ms (eC (qJ : BsW a)) _) bI bI rfl bI bI bI (BsW.ms (eC (qJ : BsW b)) _)), dK, dK, zo, zo, (y4 .i64 x ([(wE (kT (kL a) i) (qE (kL a) i) (k9 (kL a) i) (kW (kL a) i) (ka0 (kW (kL a) i)) (qD (kL a) i) (k8 (kL a) i) (kT (kL b) j) (qE (kL b) j) (k9 (kL b) j) (kW (kL b) j) (qD (kL b) j) (k8 (kL b) j))] : List Int))⟩ ?_
   refine yK [.w, .no] (yF ((j : Int) + 1)) [(1, .e (qB b m)), (5, oV 6 0 (p + 1) 1), (7, rV 2 0), (14, .e (y5 (kL a))), (15, uV (ka0 (kL a))), (16, uV i), (21, .e (y5 (kL b))), (22, uV (ka0 (kL b))), (23, iV (↑j + 1))] ⟨by omega, by omega⟩ ?_
   exact Rd.of ⟨(((j + 1) : Nat), ((p + 1) : Nat), ((x ++ ([(wE (kT (kL a) i) (qE (kL a) i) (k9 (kL a) i) (kW (kL a) i) (ka0 (kW (kL a) i)) (qD (kL a) i) (k8 (kL a) i) (kT (kL b) j) (qE (kL b) j) (k9 (kL b) j) (kW (kL b) j) (qD (kL b) j) (k8 (kL b) j))] : List Int)) : List Int)), ⟨aW, (v0f hJ rfl), k05, zo⟩⟩ [(3, 6)] (P := (kM (kU b)) ∧ (kH m) ∧ (kH 0) ∧ (kH (p + 1)) ∧ (kH 0) ∧ (kM (kU (kL a))) ∧ (kH (ka0 (kL a))) ∧ (kP (ka0 (kL a) : Int)) ∧ (kP (i : Int)) ∧ (kM (kU (kL b))) ∧ (kH (ka0 (kL b))) ∧ (kP (ka0 (kL b) : Int)) ∧ (cU j) ∧ (kM (dI .i64 (x ++ ([(wE (kT (kL a) i) (qE (kL a) i) (k9 (kL a) i) (kW (kL a) i) (ka0 (kW (kL a) i)) (qD (kL a) i) (k8 (kL a) i) (kT (kL b) j) (qE (kL b) j) (k9 (kL b) j) (kW (kL b) j) (qD (kL b) j) (k8 (kL b) j))] : List Int)))) ∧ (kM (yU (kL a) i))) zk ⟨rfl, rfl, rfl, rfl, rfl, rfl, rfl, rfl, rfl, rfl, rfl, rfl, bH, rfl, rfl⟩ (show ka0 (kL b) - (j + 1) < ka0 (kL b) - j from eF)
  ·refine kI [.b false] (¬ ((j : Int) < (ka0 (kL b) : Int))) [(1, .e (qB b m)), (5, oV 3 0 p 1), (7, rV 2 0), (14, .e (y5 (kL a))), (15, uV (ka0 (kL a))), (16, uV i), (21, .e (y5 (kL b))), (22, uV (ka0 (kL b))), (23, uV j), (24, bV false)] [(2, some (63, (eM a i))), (3, some (3, .ds (dI .i64 x)))] 4 zo ?_
   refine AW.seq ?_
   refine zf ?_
   refine AW.exit ?_
   refine aB [.w, .no] (yF ((i : Int) + 1)) [(1, .e (qB b m)), (5, oV 3 0 p 1), (14, .e (y5 (kL a))), (15, uV (ka0 (kL a))), (16, iV (↑i + 1))] [(3, some (3, .ds (dI .i64 x)))] 4 ⟨by omega, by omega⟩ ?_
   exact Rd.of ⟨(((i + 1) : Nat), (p : Nat), (x : List Int)), ⟨aW, (v0g hJ zo), (by first | assumption | omega), zo⟩⟩ [(1, 3)] (P := (kM (kU b)) ∧ (kH m) ∧ (kH 0) ∧ (kH p) ∧ (kM (kU (kL a))) ∧ (kH (ka0 (kL a))) ∧ (kP (ka0 (kL a) : Int)) ∧ (cU i) ∧ (kM (dI .i64 x))) zk ⟨rfl, rfl, rfl, rfl, rfl, rfl, rfl, bH, rfl⟩ (show ka0 (kL a) - (i + 1) < ka0 (kL a) - i from eF)
 ·refine kI [.b false] (¬ ((i : Int) < (ka0 (kL a) : Int))) [(1, .e (qB b m)), (5, oV 1 0 q 1), (14, .e (y5 (kL a))), (15, uV (ka0 (kL a))), (16, uV i), (17, bV false)] [(1, some (3, .ds (dI .i64 o)))] 2 zo ?_
  refine AW.seq ?_
  refine zf ?_
  refine AW.exit ?_
  refine AW.seq ?_
  rcases kb3 (ctB o q 15) with hx18 | hx18
  ·refine AW.freeze 1 (l' := [(1, .e (qB b m)), (5, sV .i64 o q), (14, .e (y5 (kL a))), (15, uV (ka0 (kL a))), (16, uV i), (17, bV false)]) (g' := []) rfl (FzS.cons rfl (.same _) (FzS.cons rfl (.e (.c (@FzC.own 1 ((dI .i64 o) : List D) 0 q 1 true ((dI .i64 o) : List D) k07 dK))) (FzS.cons rfl (.same _) (FzS.cons rfl (.same _) (FzS.cons rfl (.same _) (FzS.cons rfl (.same _) FzS.nil)))))) FzG.nil ?_
   refine kI [.no, .call [] (bV true) [] 0 [] none] (Fun 136 [.c (.d (dl o q)), iE 15] (kF []) 0 (bV true) (kF []) 0) [(5, sV .i64 o q), (36, bV true)] [] 2 (by have h0 := (v2x o q 15 zo zo); rw [hx18] at h0; exact h0) ?_
   refine zt ?_
   refine kS [.no] True [(4, iV 0)] trivial ?_
   refine AW.ret ?_
   exact EndP.of (.inr rfl) [] (P := (((vV a b) : Int) = 0)) zk (by first | exact v2b ho zo hq (by assumption) | exact v2a ho zo hq (by assumption) hy zo)
  ·refine AW.freeze 1 (l' := [(1, .e (qB b m)), (5, sV .i64 o q), (14, .e (y5 (kL a))), (15, uV (ka0 (kL a))), (16, uV i), (17, bV false)]) (g' := []) rfl (FzS.cons rfl (.same _) (FzS.cons rfl (.e (.c (@FzC.own 1 ((dI .i64 o) : List D) 0 q 1 true ((dI .i64 o) : List D) k07 dK))) (FzS.cons rfl (.same _) (FzS.cons rfl (.same _) (FzS.cons rfl (.same _) (FzS.cons rfl (.same _) FzS.nil)))))) FzG.nil ?_
   refine kI [.no, .call [] (bV false) [] 0 [] none] (Fun 136 [.c (.d (dl o q)), iE 15] (kF []) 0 (bV false) (kF []) 0) [(5, sV .i64 o q), (36, bV false)] [] 2 (by have h0 := (v2x o q 15 zo zo); rw [hx18] at h0; exact h0) ?_
   refine u9 ?_
   refine kS [.no] True [(5, sV .i64 o q), (10, iV 15)] trivial ?_
   refine AW.seq ?_
   refine kI [.no, .no] True [(5, sV .i64 o q), (10, iV 15), (11, rV 2 0)] [(2, some (3, .ds [iD 14]))] 3 trivial ?_
   refine AW.block ?_
   refine qF 0 hcx (fun (x : {x : Nat × Int // match x with | (z, y) => (z ≤ 14 ∧ 0 ≤ y ∧ y ≤ 15) ∧ (cJ o q z = y)}) => match x with | ⟨(z, y), _⟩ => (⟨[(5, sV .i64 o q), (10, iV y), (11, rV 3 0)], [(3, some (3, .ds [iD (14 - (z : Int))]))], 4⟩ : ES)) (fun x => match x with | ⟨(z, y), _⟩ => 14 - z) ⟨((0 : Nat), (15 : Int)), ⟨aW, rfl⟩⟩ [(3, 2)] (P := (kM (dI .i64 o)) ∧ (kH q) ∧ (kP 15) ∧ (kH 0) ∧ (kM [iD 14])) zk ⟨rfl, rfl, rfl, rfl, rfl⟩ ?_
   rintro ⟨⟨z, y⟩, hinv2⟩
   obtain ⟨hz, hy⟩ : (z ≤ 14 ∧ 0 ≤ y ∧ y ≤ 15) ∧ (cJ o q z = y) := hinv2
   refine uG (l := [(5, sV .i64 o q), (10, iV y), (11, rV 3 0)]) (g := [(3, some (3, .ds [iD (14 - (z : Int))]))]) (nx := 4) rfl rfl rfl ?_
   refine AW.seq ?_
   by_cases hx19 : ((0 : Int) < (14 - ((z : Nat) : Int)))
   ·refine kI [.no, .b true] (((0 : Int) < (14 - (z : Int)))) [(5, sV .i64 o q), (10, iV y), (11, rV 3 0), (38, bV true)] [(3, some (3, .ds [iD (14 - ↑z)]))] 4 zo ?_
    refine vO ?_
    refine AW.seq ?_
    refine AW.block ?_
    refine kS [.no, .no] True [(5, sV .i64 o q), (10, iV y), (11, rV 3 0), (12, .e (.c (.fn 137 [(3, 0)])))] trivial ?_
    by_cases hx20 : ((0 : Int) < ((q : Nat) : Int))
    ·rcases kb3 (o4 o q (14 - ((z : Nat) : Int))) with hx21 | hx21
     ·refine kS [.no, .no, .b true, .no, .no, .no, .call [3] (bV true) [(0, some (3, .ds [iD (14 - (z : Int))]))] 1 [] none, .no, .no, .no, .no] ((((0 : Int) < (q : Int))) ∧ (Fun 66 [.c (.d (dl o q)), .c (.fn 137 [(0, 0)])] (kF [(0, some (3, .ds [iD (14 - (z : Int))]))]) 1 (bV true) (kF [(0, some (3, .ds [iD (14 - (z : Int))]))]) 1)) [(5, sV .i64 o q), (10, iV y), (11, rV 3 0), (59, bV false)] ⟨zo, (by have h0 := (u8z o q (14 - (z : Int)) zo zo); rw [hx21] at h0; exact h0)⟩ ?_
      refine u9 ?_
      refine AW.seq ?_
      refine kI [.no] True [(5, sV .i64 o q), (10, iV y), (61, iV (14 - ↑z))] [] 4 trivial ?_
      refine aB [.no, .no] True [(5, sV .i64 o q), (10, iV y), (11, rV 4 0)] [(4, some (3, .ds [iD (14 - ↑z)]))] 5 trivial ?_
      refine aB [.no, .w, .no] (yF ((14 - (z : Int)) - 1)) [(5, sV .i64 o q), (10, iV y), (11, rV 4 0)] [(4, some (3, .ds [iD ((14 - ↑z) - 1)]))] 5 ⟨by omega, by omega⟩ ?_
      exact Rd.of ⟨(((z + 1) : Nat), (y : Int)), ⟨aW, (by first | exact u3d hy zo (by assumption) zo rfl | exact u3h hy zo | exact u3f hy (by assumption) | exact u3e hy zo)⟩⟩ [(3, 4)] (P := (kM (dI .i64 o)) ∧ (kH q) ∧ (kP y) ∧ (kH 0) ∧ (([iD (14 - (((z + 1) : Nat) : Int))] : List D) = [iD ((14 - (z : Int)) - 1)])) zk ⟨rfl, rfl, rfl, rfl, (by first | rfl | with_reducible assumption | (rw [show (14 - ((z + 1 : Nat) : Int)) = 14 - (z : Int) - 1 by omega]))⟩ (show 14 - (z + 1) < 14 - z from eF)
     ·by_cases hx22 : ((uO (14 - ((z : Nat) : Int))) ≤ (uO y))
      ·refine kS [.no, .no, .b true, .no, .no, .no, .call [3] (bV false) [(0, some (3, .ds [iD (14 - (z : Int))]))] 1 [] none, .no, .no, .no, .no, .w, .call [] (iV (uO (14 - (z : Int)))) [] 0 [] none, .no, .w, .call [] (iV (uO y)) [] 0 [] none, .b true, .no] ((((0 : Int) < (q : Int))) ∧ (Fun 66 [.c (.d (dl o q)), .c (.fn 137 [(0, 0)])] (kF [(0, some (3, .ds [iD (14 - (z : Int))]))]) 1 (bV false) (kF [(0, some (3, .ds [iD (14 - (z : Int))]))]) 1) ∧ (0 ≤ (14 - (z : Int)) ∧ (14 - (z : Int)) ≤ 18446744073709551615) ∧ (_) ∧ (0 ≤ y ∧ y ≤ 18446744073709551615) ∧ (_) ∧ (((uO (14 - (z : Int))) ≤ (uO y)))) [(5, sV .i64 o q), (10, iV y), (11, rV 3 0), (59, bV true)] ⟨zo, (by have h0 := (u8z o q (14 - (z : Int)) zo zo); rw [hx21] at h0; exact h0), ⟨by omega, by omega⟩, (z4 (14 - (z : Int)) zo), ⟨by omega, by omega⟩, (z4 y zo), zo⟩ ?_
       refine zt ?_
       refine yK [.no, .no] True [(5, sV .i64 o q), (10, iV (14 - ↑z)), (11, rV 3 0)] trivial ?_
       refine AW.seq ?_
       refine kI [.no] True [(5, sV .i64 o q), (10, iV (14 - ↑z)), (61, iV (14 - ↑z))] [] 4 trivial ?_
       refine aB [.no, .no] True [(5, sV .i64 o q), (10, iV (14 - ↑z)), (11, rV 4 0)] [(4, some (3, .ds [iD (14 - ↑z)]))] 5 trivial ?_
       refine aB [.no, .w, .no] (yF ((14 - (z : Int)) - 1)) [(5, sV .i64 o q), (10, iV (14 - ↑z)), (11, rV 4 0)] [(4, some (3, .ds [iD ((14 - ↑z) - 1)]))] 5 ⟨by omega, by omega⟩ ?_
       exact Rd.of ⟨(((z + 1) : Nat), ((14 - (z : Int)) : Int)), ⟨aW, (by first | exact u3d hy zo (by assumption) zo rfl | exact u3h hy zo | exact u3f hy (by assumption) | exact u3e hy zo)⟩⟩ [(3, 4)] (P := (kM (dI .i64 o)) ∧ (kH q) ∧ (kP (14 - (z : Int))) ∧ (kH 0) ∧ (([iD (14 - (((z + 1) : Nat) : Int))] : List D) = [iD ((14 - (z : Int)) - 1)])) zk ⟨rfl, rfl, rfl, rfl, (by first | rfl | with_reducible assumption | (rw [show (14 - ((z + 1 : Nat) : Int)) = 14 - (z : Int) - 1 by omega]))⟩ (show 14 - (z + 1) < 14 - z from eF)
      ·refine kS [.no, .no, .b true, .no, .no, .no, .call [3] (bV false) [(0, some (3, .ds [iD (14 - (z : Int))]))] 1 [] none, .no, .no, .no, .no, .w, .call [] (iV (uO (14 - (z : Int)))) [] 0 [] none, .no, .w, .call [] (iV (uO y)) [] 0 [] none, .b false, .no] ((((0 : Int) < (q : Int))) ∧ (Fun 66 [.c (.d (dl o q)), .c (.fn 137 [(0, 0)])] (kF [(0, some (3, .ds [iD (14 - (z : Int))]))]) 1 (bV false) (kF [(0, some (3, .ds [iD (14 - (z : Int))]))]) 1) ∧ (0 ≤ (14 - (z : Int)) ∧ (14 - (z : Int)) ≤ 18446744073709551615) ∧ (_) ∧ (0 ≤ y ∧ y ≤ 18446744073709551615) ∧ (_) ∧ (¬ ((uO (14 - (z : Int))) ≤ (uO y)))) [(5, sV .i64 o q), (10, iV y), (11, rV 3 0), (59, bV false)] ⟨zo, (by have h0 := (u8z o q (14 - (z : Int)) zo zo); rw [hx21] at h0; exact h0), ⟨by omega, by omega⟩, (z4 (14 - (z : Int)) zo), ⟨by omega, by omega⟩, (z4 y zo), zo⟩ ?_
       refine u9 ?_
       refine AW.seq ?_
       refine kI [.no] True [(5, sV .i64 o q), (10, iV y), (61, iV (14 - ↑z))] [] 4 trivial ?_
       refine aB [.no, .no] True [(5, sV .i64 o q), (10, iV y), (11, rV 4 0)] [(4, some (3, .ds [iD (14 - ↑z)]))] 5 trivial ?_
       refine aB [.no, .w, .no] (yF ((14 - (z : Int)) - 1)) [(5, sV .i64 o q), (10, iV y), (11, rV 4 0)] [(4, some (3, .ds [iD ((14 - ↑z) - 1)]))] 5 ⟨by omega, by omega⟩ ?_
       exact Rd.of ⟨(((z + 1) : Nat), (y : Int)), ⟨aW, (by first | exact u3d hy zo (by assumption) zo rfl | exact u3h hy zo | exact u3f hy (by assumption) | exact u3e hy zo)⟩⟩ [(3, 4)] (P := (kM (dI .i64 o)) ∧ (kH q) ∧ (kP y) ∧ (kH 0) ∧ (([iD (14 - (((z + 1) : Nat) : Int))] : List D) = [iD ((14 - (z : Int)) - 1)])) zk ⟨rfl, rfl, rfl, rfl, (by first | rfl | with_reducible assumption | (rw [show (14 - ((z + 1 : Nat) : Int)) = 14 - (z : Int) - 1 by omega]))⟩ (show 14 - (z + 1) < 14 - z from eF)
    ·refine kS (.no :: .no :: .b false :: qN 4 []) (¬ ((0 : Int) < (q : Int))) [(5, sV .i64 o q), (10, iV y), (11, rV 3 0), (59, bV false)] zo ?_
     refine u9 ?_
     refine AW.seq ?_
     refine kI [.no] True [(5, sV .i64 o q), (10, iV y), (61, iV (14 - ↑z))] [] 4 trivial ?_
     refine aB [.no, .no] True [(5, sV .i64 o q), (10, iV y), (11, rV 4 0)] [(4, some (3, .ds [iD (14 - ↑z)]))] 5 trivial ?_
     refine aB [.no, .w, .no] (yF ((14 - (z : Int)) - 1)) [(5, sV .i64 o q), (10, iV y), (11, rV 4 0)] [(4, some (3, .ds [iD ((14 - ↑z) - 1)]))] 5 ⟨by omega, by omega⟩ ?_
     exact Rd.of ⟨(((z + 1) : Nat), (y : Int)), ⟨aW, (by first | exact u3d hy zo (by assumption) zo rfl | exact u3h hy zo | exact u3f hy (by assumption) | exact u3e hy zo)⟩⟩ [(3, 4)] (P := (kM (dI .i64 o)) ∧ (kH q) ∧ (kP y) ∧ (kH 0) ∧ (([iD (14 - (((z + 1) : Nat) : Int))] : List D) = [iD ((14 - (z : Int)) - 1)])) zk ⟨rfl, rfl, rfl, rfl, (by first | rfl | with_reducible assumption | (rw [show (14 - ((z + 1 : Nat) : Int)) = 14 - (z : Int) - 1 by omega]))⟩ (show 14 - (z + 1) < 14 - z from eF)
   ·refine kI [.no, .b false] (¬ ((0 : Int) < (14 - (z : Int)))) [(5, sV .i64 o q), (10, iV y), (11, rV 3 0), (38, bV false)] [(3, some (3, .ds [iD (14 - ↑z)]))] 4 zo ?_
    refine zf ?_
    refine AW.exit ?_
    refine kI [.no, .no] True [(4, iV y)] [] 4 trivial ?_
    refine AW.ret ?_
    exact EndP.of (.inr rfl) [] (P := (((vV a b) : Int) = y)) zk (by first | exact v2b ho zo hq (by assumption) | exact v2a ho zo hq (by assumption) hy zo)
end Go.Proofs.YtbicifcgghmhaaaGreat
