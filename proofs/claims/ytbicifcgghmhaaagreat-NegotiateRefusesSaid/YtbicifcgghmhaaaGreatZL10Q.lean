/- What is to blame, of the code. No statement is proved here. -/
import Derived.Test.YtbicifcgghmhaaaGreatZL10N
namespace Go.Proofs.YtbicifcgghmhaaaGreat
open Go.ChangeShapes Go.WideShapes Go.ChangeAt Go.RowKit
open Bool renaming eq_false_or_eq_true → kb3
open List renaming drop → ka3, getD → ka1, length → ka0, length_append → ka6, length_cons → ka9, length_drop → kb2, length_map → kc4, length_nil → kb1, length_replicate → kb4, length_reverse → kc1, length_set → kb9, length_take → kb0
open Nat renaming le_of_ble_eq_true → ka4, mul_one → kc7
set_option linter.unusedVariables false
set_option linter.unusedSimpArgs false
/-! chapter 10: what is to blame -/
set_option maxHeartbeats 4000000
set_option maxRecDepth 100000
def qV (a b : Int) : Int := qM .and .i64 a b
def wG (k : Int) (r : List Int) (rn : Nat) (m : List (List Int)) (c : Nat) (s : List Int) (sn : Nat) (k2 : Int) (r2 : List Int) (rn2 : Nat) (m2 : List (List Int)) (s2 : List Int) (sn2 : Nat) : Int :=
 (if qV k k2 = 0 then 0 else 1) + (if qT (kC r rn) (kC r2 rn2) = 0 then 0 else 2) + (if ka0 (u9 m m2 c) = 0 then 0 else 4) + (if qT (kC s sn) (kC s2 sn2) = 0 then 0 else 8)
def y7 (k k2 : Int) : Int := if qV k k2 = 0 then 0 else 1
def oS (a : Int) (n : Nat) (b : Int) : Int := a + (if n = 0 then 0 else b)
theorem lV (k k2 : Int) : (qV k k2 = 0 ∧ y7 k k2 = 0) ∨ (¬ qV k k2 = 0 ∧ y7 k k2 = 1) := by
 unfold y7; split
 ·exact .inl ⟨by assumption, rfl⟩
 ·exact .inr ⟨by assumption, rfl⟩
theorem mA (a : Int) (n : Nat) (b : Int) : (n = 0 ∧ oS a n b = a) ∨ (1 ≤ n ∧ oS a n b = a + b) := by
 unfold oS; split
 ·exact .inl ⟨by assumption, by omega⟩
 ·exact .inr ⟨by omega, rfl⟩
theorem v3d {a : Int} (h : 0 ≤ a ∧ a ≤ 1) : qM .or .i64 a 2 = a + 2 := by
 rcases (by omega : a = 0 ∨ a = 1) with rfl | rfl <;> decide
theorem v3c {a : Int} (h : 0 ≤ a ∧ a ≤ 3) : qM .or .i64 a 4 = a + 4 := by
 rcases (by omega : a = 0 ∨ a = 1 ∨ a = 2 ∨ a = 3) with rfl | rfl | rfl | rfl <;> decide
theorem v3b {a : Int} (h : 0 ≤ a ∧ a ≤ 7) : qM .or .i64 a 8 = a + 8 := by
 rcases (by omega : a = 0 ∨ a = 1 ∨ a = 2 ∨ a = 3 ∨ a = 4 ∨ a = 5 ∨ a = 6 ∨ a = 7) with rfl | rfl | rfl | rfl | rfl | rfl | rfl | rfl <;> decide
theorem u10 (k : Int) (r : List Int) (rn : Nat) (m : List (List Int)) (c : Nat) (s : List Int) (sn : Nat) (k2 : Int) (r2 : List Int) (rn2 : Nat) (m2 : List (List Int)) (s2 : List Int) (sn2 : Nat) : 0 ≤ wG k r rn m c s sn k2 r2 rn2 m2 s2 sn2 ∧ wG k r rn m c s sn k2 r2 rn2 m2 s2 sn2 ≤ 15 := by
 unfold wG; (repeat' split) <;> omega
def shE (xs ys : List Bx) (i j : Nat) : Int := wG (kU xs i) (qG xs i) (qA xs i) (kX xs i) (ka0 (kX xs i)) (qF xs i) (k9 xs i) (kU ys j) (qG ys j) (qA ys j) (kX ys j) (qF ys j) (k9 ys j)
def pM (xs ys : List Bx) : Nat → List Int
 | 0 => []
 | i + 1 => pM xs ys i ++ (List.range (ka0 ys)).map (shE xs ys i)
def prJ (xs ys : List Bx) (i j : Nat) : List Int := pM xs ys i ++ (List.range j).map (shE xs ys i)
theorem v06 {xs ys : List Bx} {i : Nat} {o : List Int} (h : pM xs ys i = o) : prJ xs ys i 0 = o := by
 unfold prJ; rw [h]; exact List.append_nil _
theorem v04 {xs ys : List Bx} {i j : Nat} {o : List Int} {x : Int} (h : prJ xs ys i j = o) (hx : x = shE xs ys i j) : prJ xs ys i (j + 1) = o ++ [x] := by
 subst h; subst hx
 unfold prJ; rw [List.range_succ, List.map_append, List.append_assoc]; rfl
theorem v05 {xs ys : List Bx} {i j : Nat} {o : List Int} (h : prJ xs ys i j = o) (hj : j = ka0 ys) : pM xs ys (i + 1) = o := by
 subst hj; exact h
theorem k28 (xs ys : List Bx) : ∀ i, ka0 (pM xs ys i) = i * ka0 ys
 | 0 => (Nat.zero_mul _).symm
 | i + 1 => by rw [pM, ka6, k28 xs ys i, kc4, List.length_range, Nat.succ_mul]
def ctB (l : List Int) (n : Nat) (v : Int) : Bool := decide (0 ≤ uW l v n)
def stB (d s : Int) : Bool := decide (qV d s = s)
def lX (l : List Int) (s : Int) : Nat → Int := jD fun j => stB (ka1 l j 0) s
theorem u44 {l : List Int} {s : Int} {k : Nat} (h : lX l s k = -1) (h2 : stB (ka1 l k 0) s = false) : lX l s (k + 1) = -1 := cF h h2
theorem k2o {l : List Int} {s : Int} {k : Nat} (h : lX l s k = -1) (h2 : stB (ka1 l k 0) s = true) {n : Nat} (hn : k < n) : lX l s n = (k : Int) := eX h h2 n hn
def o5 (l : List Int) (n : Nat) (s : Int) : Bool := decide (0 ≤ lX l s n)
def uQ (x : Int) : Int := x % 2 + x / 2 % 2 + x / 4 % 2 + x / 8 % 2
def cK (l : List Int) (n : Nat) : Nat → Int
 | 0 => 15
 | i + 1 => if 1 ≤ n ∧ o5 l n (14 - (i : Int)) = false ∧ uQ (14 - (i : Int)) ≤ uQ (cK l n i) then 14 - (i : Int) else cK l n i
theorem tV (l : List Int) (n : Nat) : ∀ i, i ≤ 14 → 0 ≤ cK l n i ∧ cK l n i ≤ 15
 | 0, _ => ⟨(by decide : (0 : Int) ≤ 15), Int.le_refl 15⟩
 | i + 1, h => by
  have := tV l n i (by omega)
  rw [cK]; split <;> omega
theorem u2x {l : List Int} {n i : Nat} {y x : Int} (h : cK l n i = y) (h1 : 1 ≤ n) (h2 : o5 l n (14 - (i : Int)) = false) (h3 : uQ (14 - (i : Int)) ≤ uQ y) (hx : x = 14 - (i : Int)) : cK l n (i + 1) = x := by
 subst h; rw [hx]; exact if_pos ⟨h1, h2, h3⟩
theorem u31 {l : List Int} {n i : Nat} {y : Int} (h : cK l n i = y) (h1 : ¬ 1 ≤ n) : cK l n (i + 1) = y := by
 subst h; exact if_neg fun e => h1 e.1
theorem u2z {l : List Int} {n i : Nat} {y : Int} (h : cK l n i = y) (h2 : o5 l n (14 - (i : Int)) = true) : cK l n (i + 1) = y := by
 subst h; exact if_neg fun e => by rw [h2] at e; cases e.2.1
theorem u2y {l : List Int} {n i : Nat} {y : Int} (h : cK l n i = y) (h3 : ¬ uQ (14 - (i : Int)) ≤ uQ y) : cK l n (i + 1) = y := by
 subst h; exact if_neg fun e => h3 e.2.2
def blP (l : List Int) : Int := if ctB l (ka0 l) 15 = true then 0 else cK l (ka0 l) 14
def vY (a b : List Bx) : Int := blP (pM (kM a) (kM b) (ka0 (kM a)))
theorem v1z {a b : List Bx} {o : List Int} {i n : Nat} (h : pM (kM a) (kM b) i = o) (hi : i = ka0 (kM a)) (hn : ka0 o = n) (hc : ctB o n 15 = true) : vY a b = 0 := by
 subst hi; subst hn
 unfold vY; rw [h]; exact if_pos hc
theorem v1y {a b : List Bx} {o : List Int} {i n : Nat} {y : Int} {z : Nat} (h : pM (kM a) (kM b) i = o) (hi : i = ka0 (kM a)) (hn : ka0 o = n) (hc : ctB o n 15 = false) (hy : cK o n z = y) (hz : z = 14) : vY a b = y := by
 subst hi; subst hn; subst hz
 unfold vY; rw [h, ← hy]; exact if_neg (by rw [hc]; decide)
theorem dK (a b : List Bx) : 0 ≤ vY a b ∧ vY a b ≤ 15 := by
 unfold vY blP; split
 ·decide
 ·exact tV _ _ 14 (Nat.le_refl _)
theorem k9q (a : List Bx) : ka0 (kM a) ≤ 64 := by
 unfold kM; split
 ·rename_i h; exact (of_decide_eq_true h).1
 ·exact Nat.zero_le _
theorem c16 {x : Int} (h : 0 ≤ x ∧ x ≤ 15) {p : Int → Prop} (h0 : ∀ n : Nat, n < 16 → p (n : Int)) : p x := by
 have := h0 x.toNat (by omega)
 rw [show ((x.toNat : Nat) : Int) = x by omega] at this; exact this
def wJ (x : Int) : Int := x / 2 % 2 + 4 * (x / 8 % 2)
def wI (x : Int) : Int := x % 2 + 4 * (x / 4 % 2)
def pQ (x : Int) : Int := x / 4 % 2 + x / 8 % 2
def pP (x : Int) : Int := x % 2 + x / 2 % 2
theorem v3k {x : Int} (h : 0 ≤ x ∧ x ≤ 15) : qM .and .u64 (x / 2) 6148914691236517205 = wJ x := c16 (p := fun x => qM .and .u64 (x / 2) 6148914691236517205 = wJ x) h (by decide)
theorem v3j {x : Int} (h : 0 ≤ x ∧ x ≤ 15) : qM .and .u64 x 6148914691236517205 = wI x := c16 (p := fun x => qM .and .u64 x 6148914691236517205 = wI x) h (by decide)
theorem v3i {x : Int} (h : 0 ≤ x ∧ x ≤ 15) : qM .and .u64 ((wJ x + wI x) / 4) 3689348814741910323 = pQ x := c16 (p := fun x => qM .and .u64 ((wJ x + wI x) / 4) 3689348814741910323 = pQ x) h (by decide)
theorem v3h {x : Int} (h : 0 ≤ x ∧ x ≤ 15) : qM .and .u64 (wJ x + wI x) 3689348814741910323 = pP x := c16 (p := fun x => qM .and .u64 (wJ x + wI x) 3689348814741910323 = pP x) h (by decide)
theorem v3g {x y : Int} (h : 0 ≤ x ∧ x ≤ 15) (hy : y = pQ x + pP x) : qM .and .u64 y 1085102592571150095 = uQ x := by
 rw [hy]; exact c16 (p := fun x => qM .and .u64 (pQ x + pP x) 1085102592571150095 = uQ x) h (by decide)
theorem v3f {x y : Int} (h : 0 ≤ x ∧ x ≤ 15) (hy : y = uQ x) : qM .and .i64 y 127 = uQ x := by
 rw [hy]; exact c16 (p := fun x => qM .and .i64 (uQ x) 127 = uQ x) h (by decide)
theorem v3e {x : Int} (h : 0 ≤ x ∧ x ≤ 15) : (0 ≤ wJ x ∧ wJ x ≤ 5) ∧ (0 ≤ wI x ∧ wI x ≤ 5) ∧ (0 ≤ pQ x ∧ pQ x ≤ 2) ∧ (0 ≤ pP x ∧ pP x ≤ 2) ∧ 0 ≤ uQ x ∧ uQ x ≤ 4 := by
 unfold wJ wI pQ pP uQ; omega
theorem aZ {p : Prop} (h : p := by first | omega | assumption | simp) : p := h
theorem k06 {p : Prop} (h : p := by first | omega | (simp only [k8, kZ, ka6, ka9, kb1, kb0, kb2] <;> omega)) : p := h
theorem bK {p : Prop} (h : p := by first | omega | with_reducible assumption | (simp only [k8, kZ, ka6, ka9, kb1, kb0, kb2, kb4, kb9] <;> omega) | rfl | assumption) : p := h
theorem dN {p : Prop} (h : p := by first | omega | (simp only [k8, kZ, qW, ka6, ka9, kb1, kb0, kb2, kb4, kb9, kc4, kc1, kc7] <;> omega) | rfl) : p := h
theorem k05 {p : Prop} (h : p := by first | omega | (simp only [k8, kZ, ka6, ka9, kb1] <;> omega)) : p := h
theorem bJ {p : Prop} (h : p := by first | rfl | omega | assumption | (simp; done) | (simp; omega)) : p := h
theorem eI {p : Prop} (h : p := by first | omega | (show _ < _; simp; omega)) : p := h
theorem k07 {p : Prop} (h : p := by rw [List.drop_zero, kc7, List.take_of_length_le (by first | omega | (simp only [k8, kZ, qW, ka6, ka9, kb1, kb0, kb2, kb4, kb9, kc4, kc1, kc7] <;> omega))]) : p := h
theorem k51 (a b : List (List Int)) (n m : Nat) (hn : ka0 a = n) (hm : ka0 b = m) (h1 : n ≤ 1000000) (h2 : m ≤ 1000000) (hW : MsW a) (hV : MsW b) : Fun 161 [.c (.d (D.sl (kL a) n)), .c (.d (D.sl (kL b) m))] (kH []) 0 (qK (kL (u9 a b n)) (ka0 (u9 a b n))) (kH []) 0 := by
 refine Fun.mk (n := 24) Tryz.func161 rfl rfl (ka4 rfl) ?_
 intro cx hcx
 refine kK [.no] True [(0, qK (kL a) n), (1, qK (kL b) m)] [] 0 trivial ?_
 refine kT [.no] True [(0, qK (kL a) n), (1, qK (kL b) m), (5, nV)] trivial ?_
 refine AW.seq ?_
 refine kT [.no, .no, .no] True [(1, qK (kL b) m), (5, nV), (8, qK (kL a) n), (9, uV n), (10, iV 0)] trivial ?_
 refine AW.block ?_
 refine AW.adoptS 5 1 38 rfl ?_
 refine qH 0 hcx (fun (x : {x : Nat × Nat × List (List Int) // match x with | (i, q, o) => (i ≤ n ∧ q ≤ i) ∧ (u9 a b i = o) ∧ (ka0 o = q) ∧ (MsW o)}) => match x with | ⟨(i, q, o), _⟩ => (⟨[(1, qK (kL b) m), (5, oV 1 0 q 1), (8, qK (kL a) n), (9, uV n), (10, uV i)], [(1, some (38, .ds (kL o)))], 2⟩ : ES)) (fun x => match x with | ⟨(i, q, o), _⟩ => n - i) ⟨((0 : Nat), (0 : Nat), (([] : List (List Int)) : List (List Int))), ⟨aZ, rfl, rfl, MsW.nil⟩⟩ [(1, 0)] (P := (kN (kL b)) ∧ (kJ m) ∧ (kJ 0) ∧ (kJ 0) ∧ (kN (kL a)) ∧ (kJ n) ∧ (kS (n : Int)) ∧ (kS 0) ∧ (((kL ([] : List (List Int))) : List D) = ([] : List D))) zk ⟨rfl, rfl, rfl, rfl, rfl, rfl, rfl, rfl, (by first | rfl | with_reducible assumption)⟩ ?_
 rintro ⟨⟨i, q, o⟩, hinv0⟩
 obtain ⟨hi, ho, hq, hO⟩ : (i ≤ n ∧ q ≤ i) ∧ (u9 a b i = o) ∧ (ka0 o = q) ∧ (MsW o) := hinv0
 refine uL (l := [(1, qK (kL b) m), (5, oV 1 0 q 1), (8, qK (kL a) n), (9, uV n), (10, uV i)]) (g := [(1, some (38, .ds (kL o)))]) (nx := 2) rfl rfl rfl ?_
 by_cases hx1 : (((i : Nat) : Int) < ((n : Nat) : Int))
 ·refine kK [.b true] (((i : Int) < (n : Int))) [(1, qK (kL b) m), (5, oV 1 0 q 1), (8, qK (kL a) n), (9, uV n), (10, uV i), (11, bV true)] [(1, some (38, .ds (kL o)))] 2 zo ?_
  refine AW.seq ?_
  refine vR ?_
  refine AW.seq ?_
  refine AW.block ?_
  have hx2 : ((ka0 (ka1 a i ([] : List Int))) ≤ 1000000) := MsW.at (qJ : MsW a) _
  refine kT [.n i, .d (dl (ka1 a i ([] : List Int)) (ka0 (ka1 a i ([] : List Int)))), .no] ((kS (i : Int)) ∧ (i < n) ∧ ((ka3 i (kL a))[0]? = some (dl (ka1 a i ([] : List Int)) (ka0 (ka1 a i ([] : List Int)))))) [(1, qK (kL b) m), (5, oV 1 0 q 1), (7, sV .i64 (ka1 a i ([] : List Int)) (ka0 (ka1 a i ([] : List Int)))), (8, qK (kL a) n), (9, uV n), (10, uV i)] ⟨rfl, zo, (bM _ _ k06)⟩ ?_
  rcases kb3 (iK b (ka1 a i ([] : List Int))) with hx3 | hx3
  ·refine kT [.no, .no, .call [] (bV true) [] 0 [] none] (Fun 126 [.c (.d (D.sl (kL b) m)), .c (.d (dl (ka1 a i ([] : List Int)) (ka0 (ka1 a i ([] : List Int)))))] (kH []) 0 (bV true) (kH []) 0) [(1, qK (kL b) m), (5, oV 1 0 q 1), (7, sV .i64 (ka1 a i ([] : List Int)) (ka0 (ka1 a i ([] : List Int)))), (8, qK (kL a) n), (9, uV n), (10, uV i), (16, bV true)] (by have h0 := (jP b m (ka1 a i ([] : List Int)) (ka0 (ka1 a i ([] : List Int))) zo rfl zo bK (qJ : MsW b)); rw [hx3] at h0; exact h0) ?_
   refine zt ?_
   refine aG [.no, .no, (.fz (.call [] (oV 0 0 (ka0 (ka1 a i ([] : List Int))) 1) [(0, some (3, .ds (dI .i64 (ka1 a i ([] : List Int)))))] 1 [] none)), .no, .ap none (q + 1) (kL (o ++ ([(ka1 a i ([] : List Int))] : List (List Int)))), .no] ((_) ∧ (((dI .i64 (ka1 a i ([] : List Int))) : List D).length = (ka0 (ka1 a i ([] : List Int))) * 1) ∧ ([dl (ka1 a i ([] : List Int)) (ka0 (ka1 a i ([] : List Int)))].length = 1 * 1) ∧ (((kL o) : List D).length = q * 1) ∧ ((q + 1) * 24 ≤ 140737488355328) ∧ (q + 1 = (q + 1)) ∧ (((kL o) : List D) ++ [dl (ka1 a i ([] : List Int)) (ka0 (ka1 a i ([] : List Int)))] = (kL (o ++ ([(ka1 a i ([] : List Int))] : List (List Int)))))) [(1, qK (kL b) m), (5, oV 4 0 (q + 1) 1), (8, qK (kL a) n), (9, uV n), (10, uV i)] [(4, some (38, .ds (kL (o ++ ([(ka1 a i ([] : List Int))] : List (List Int))))))] 5 ⟨(dM (ka1 a i ([] : List Int)) (ka0 (ka1 a i ([] : List Int))) rfl bK), dN, dN, dN, zo, zo, (sW o (ka1 a i ([] : List Int)) (ka0 (ka1 a i ([] : List Int))) (by first | rfl | omega))⟩ ?_
   refine yT [.w, .no] (yQ ((i : Int) + 1)) [(1, qK (kL b) m), (5, oV 4 0 (q + 1) 1), (8, qK (kL a) n), (9, uV n), (10, iV (↑i + 1))] ⟨by omega, by omega⟩ ?_
   exact qE ⟨(((i + 1) : Nat), ((q + 1) : Nat), ((o ++ ([(ka1 a i ([] : List Int))] : List (List Int))) : List (List Int))), ⟨aZ, (by first | exact u4u ho (by assumption) | exact u4v ho (by assumption)), k05, (by first | assumption | exact MsW.snoc (by assumption) zo)⟩⟩ [(1, 4)] (P := (kN (kL b)) ∧ (kJ m) ∧ (kJ 0) ∧ (kJ (q + 1)) ∧ (kN (kL a)) ∧ (kJ n) ∧ (kS (n : Int)) ∧ (c7 i) ∧ (kN (kL (o ++ ([(ka1 a i ([] : List Int))] : List (List Int)))))) zk ⟨rfl, rfl, rfl, rfl, rfl, rfl, rfl, bJ, rfl⟩ (show n - (i + 1) < n - i from eI)
  ·refine kT [.no, .no, .call [] (bV false) [] 0 [] none] (Fun 126 [.c (.d (D.sl (kL b) m)), .c (.d (dl (ka1 a i ([] : List Int)) (ka0 (ka1 a i ([] : List Int)))))] (kH []) 0 (bV false) (kH []) 0) [(1, qK (kL b) m), (5, oV 1 0 q 1), (7, sV .i64 (ka1 a i ([] : List Int)) (ka0 (ka1 a i ([] : List Int)))), (8, qK (kL a) n), (9, uV n), (10, uV i), (16, bV false)] (by have h0 := (jP b m (ka1 a i ([] : List Int)) (ka0 (ka1 a i ([] : List Int))) zo rfl zo bK (qJ : MsW b)); rw [hx3] at h0; exact h0) ?_
   refine yA ?_
   refine yT [.w, .no] (yQ ((i : Int) + 1)) [(1, qK (kL b) m), (5, oV 1 0 q 1), (8, qK (kL a) n), (9, uV n), (10, iV (↑i + 1))] ⟨by omega, by omega⟩ ?_
   exact qE ⟨(((i + 1) : Nat), (q : Nat), (o : List (List Int))), ⟨aZ, (by first | exact u4u ho (by assumption) | exact u4v ho (by assumption)), k05, (by first | assumption | exact MsW.snoc (by assumption) zo)⟩⟩ [] (P := (kN (kL b)) ∧ (kJ m) ∧ (kJ 0) ∧ (kJ q) ∧ (kN (kL a)) ∧ (kJ n) ∧ (kS (n : Int)) ∧ (c7 i) ∧ (kN (kL o))) zk ⟨rfl, rfl, rfl, rfl, rfl, rfl, rfl, bJ, rfl⟩ (show n - (i + 1) < n - i from eI)
 ·refine kK [.b false] (¬ ((i : Int) < (n : Int))) [(1, qK (kL b) m), (5, oV 1 0 q 1), (8, qK (kL a) n), (9, uV n), (10, uV i), (11, bV false)] [(1, some (38, .ds (kL o)))] 2 zo ?_
  refine AW.seq ?_
  refine zf ?_
  refine AW.exit ?_
  refine kK [.no, .no] True [(4, oV 1 0 q 1)] [(1, some (38, .ds (kL o)))] 2 trivial ?_
  refine AW.freeze 1 (l' := [(4, qK (kL o) q)]) (g' := []) rfl (FzS.cons rfl (.e (.c (@FzC.own 1 ((kL o) : List D) 0 q 1 true ((kL o) : List D) k07 dN))) FzS.nil) FzG.nil ?_
  have hz1 : u9 a b n = o := by have h9 := ho; rw [show i = n by omega] at h9; exact h9
  refine AW.ret ?_
  exact kB (.inr rfl) [] (P := (((kL (u9 a b n)) : List D) = (kL o)) ∧ (((ka0 (u9 a b n)) : Nat) = q)) zk ⟨(by first | rfl | (rw [hz1]; done) | (rw [hz1]; rfl)), (by first | rfl | (rw [hz1]; omega) | omega)⟩
abbrev dR (k : Int) (r : List Int) (rn : Nat) (m : List (List Int)) (c : Nat) (s : List Int) (sn : Nat) : BC := .ds [iD k, D.sl (dI .i64 r) rn, D.sl (kL m) c, D.sl (dI .i64 s) sn]
abbrev dQ (k2 : Int) (r2 : List Int) (rn2 : Nat) (m2 : List (List Int)) (c2 : Nat) (s2 : List Int) (sn2 : Nat) : BC := .ds [iD k2, D.sl (dI .i64 r2) rn2, D.sl (kL m2) c2, D.sl (dI .i64 s2) sn2]
theorem v4j (k : Int) (r : List Int) (rn : Nat) (m : List (List Int)) (c : Nat) (s : List Int) (sn : Nat) (k2 : Int) (r2 : List Int) (rn2 : Nat) (m2 : List (List Int)) (c2 : Nat) (s2 : List Int) (sn2 : Nat) (hr : ka0 r = rn * 2) (hs : ka0 s = sn * 2) (hc : ka0 m = c) (h1 : rn ≤ 1000000) (h2 : sn ≤ 1000000) (h3 : c ≤ 1000000) (hW : MsW m) (hr2 : ka0 r2 = rn2 * 2) (hs2 : ka0 s2 = sn2 * 2) (hc2 : ka0 m2 = c2) (h12 : rn2 ≤ 1000000) (h22 : sn2 ≤ 1000000) (h32 : c2 ≤ 1000000) (hW2 : MsW m2) : Fun 135 [.agg [iC k, .d (D.sl (dI .i64 r) rn), .d (D.sl (kL m) c), .d (D.sl (dI .i64 s) sn)], .agg [iC k2, .d (D.sl (dI .i64 r2) rn2), .d (D.sl (kL m2) c2), .d (D.sl (dI .i64 s2) sn2)]] (kH []) 0 (iV (wG k r rn m c s sn k2 r2 rn2 m2 s2 sn2)) (kH []) 0 := by
 refine Fun.mk (n := 44) Tryz.func135 rfl rfl (ka4 rfl) ?_
 intro cx hcx
 refine kK [.no, .no, .no] True [(2, rV 0 0), (3, rV 1 0)] [(0, some (63, (dR k r rn m c s sn))), (1, some (63, (dQ k2 r2 rn2 m2 c2 s2 sn2)))] 2 trivial ?_
 refine kT [.no] True [(2, rV 0 0), (3, rV 1 0), (5, iV 0)] trivial ?_
 refine aO hcx [(2, rV 0 0), (3, rV 1 0), (5, iV (y7 k k2))] [(0, some (63, (dR k r rn m c s sn))), (1, some (63, (dQ k2 r2 rn2 m2 c2 s2 sn2)))] 2 ?_ ?_
 ·by_cases hx2 : ((qV k k2) ≠ 0)
  ·have hx3 : (qV k k2 = 0 ∧ y7 k k2 = 0) ∨ (¬ qV k k2 = 0 ∧ y7 k k2 = 1) := lV _ _
   refine kK (qN 4 [.i (qV k k2), .b true]) ((qM .and .i64 k k2 = (qV k k2)) ∧ (((qV k k2) ≠ 0))) [(2, rV 0 0), (3, rV 1 0), (5, iV 0), (11, bV true)] [(0, some (63, (dR k r rn m c s sn))), (1, some (63, (dQ k2 r2 rn2 m2 c2 s2 sn2)))] 2 ⟨rfl, zo⟩ ?_
   refine zt ?_
   refine yT [.no, .i 1, .no] (qM .or .i64 0 1 = 1) [(2, rV 0 0), (3, rV 1 0), (5, iV 1)] (by decide) ?_
   exact qE () [] (P := (kJ 0) ∧ (kJ 0) ∧ (((y7 k k2) : Int) = 1) ∧ (kN [iD k, dl r rn, D.sl (kL m) c, dl s sn]) ∧ (kN [iD k2, dl r2 rn2, D.sl (kL m2) c2, dl s2 sn2])) zk ⟨rfl, rfl, bJ, rfl, rfl⟩ True.intro
  ·have hx4 : (qV k k2 = 0 ∧ y7 k k2 = 0) ∨ (¬ qV k k2 = 0 ∧ y7 k k2 = 1) := lV _ _
   refine kK (qN 4 [.i (qV k k2), .b false]) ((qM .and .i64 k k2 = (qV k k2)) ∧ (¬ ((qV k k2) ≠ 0))) [(2, rV 0 0), (3, rV 1 0), (5, iV 0), (11, bV false)] [(0, some (63, (dR k r rn m c s sn))), (1, some (63, (dQ k2 r2 rn2 m2 c2 s2 sn2)))] 2 ⟨rfl, zo⟩ ?_
   refine yA ?_
   exact qE () [] (P := (kJ 0) ∧ (kJ 0) ∧ (((y7 k k2) : Int) = 0) ∧ (kN [iD k, dl r rn, D.sl (kL m) c, dl s sn]) ∧ (kN [iD k2, dl r2 rn2, D.sl (kL m2) c2, dl s2 sn2])) zk ⟨rfl, rfl, bJ, rfl, rfl⟩ True.intro
 ·refine aO hcx [(2, rV 0 0), (3, rV 1 0), (5, iV (oS (y7 k k2) (qT (kC r rn) (kC r2 rn2)) 2))] [(0, some (63, (dR k r rn m c s sn))), (1, some (63, (dQ k2 r2 rn2 m2 c2 s2 sn2)))] 2 ?_ ?_
  ·by_cases hx9 : ((0 : Int) < (((qT (kC r rn) (kC r2 rn2)) : Nat) : Int))
   ·have hx10 : ((qT (kC r rn) (kC r2 rn2) : Nat) = 0 ∧ oS (y7 k k2) (qT (kC r rn) (kC r2 rn2)) 2 = y7 k k2) ∨ (1 ≤ qT (kC r rn) (kC r2 rn2) ∧ oS (y7 k k2) (qT (kC r rn) (kC r2 rn2)) 2 = y7 k k2 + 2) := mA _ _ _
    have hx11 : 0 ≤ y7 k k2 ∧ y7 k k2 ≤ 1 := (by have h9 := lV k k2; omega)
    have hx12 : ((ka0 (uR (kC r rn) (kC r2 rn2))) = ((qT (kC r rn) (kC r2 rn2)) * 2)) := yI _ _
    have hx13 : ((qT (kC r rn) (kC r2 rn2)) ≤ 64) := aJ _ _
    refine kK (qN 4 [.call [] (.e (.agg [.d (dl (uR (kC r rn) (kC r2 rn2)) (qT (kC r rn) (kC r2 rn2)))])) [] 0 [] none, .no, .no, .b true]) ((_) ∧ (((0 : Int) < (qT (kC r rn) (kC r2 rn2) : Int)))) [(2, rV 0 0), (3, rV 1 0), (5, iV (y7 k k2)), (21, bV true)] [(0, some (63, (dR k r rn m c s sn))), (1, some (63, (dQ k2 r2 rn2 m2 c2 s2 sn2)))] 2 ⟨(gJ r r2 rn rn2 zo zo zo zo), zo⟩ ?_
    refine zt ?_
    refine yT [.no, .i ((y7 k k2) + 2), .no] (qM .or .i64 (y7 k k2) 2 = ((y7 k k2) + 2)) [(2, rV 0 0), (3, rV 1 0), (5, iV ((y7 k k2) + 2))] (v3d zo) ?_
    exact qE () [] (P := (kJ 0) ∧ (kJ 0) ∧ (((oS (y7 k k2) (qT (kC r rn) (kC r2 rn2)) 2) : Int) = ((y7 k k2) + 2)) ∧ (kN [iD k, dl r rn, D.sl (kL m) c, dl s sn]) ∧ (kN [iD k2, dl r2 rn2, D.sl (kL m2) c2, dl s2 sn2])) zk ⟨rfl, rfl, bJ, rfl, rfl⟩ True.intro
   ·have hx14 : ((qT (kC r rn) (kC r2 rn2) : Nat) = 0 ∧ oS (y7 k k2) (qT (kC r rn) (kC r2 rn2)) 2 = y7 k k2) ∨ (1 ≤ qT (kC r rn) (kC r2 rn2) ∧ oS (y7 k k2) (qT (kC r rn) (kC r2 rn2)) 2 = y7 k k2 + 2) := mA _ _ _
    have hx15 : 0 ≤ y7 k k2 ∧ y7 k k2 ≤ 1 := (by have h9 := lV k k2; omega)
    have hx16 : ((ka0 (uR (kC r rn) (kC r2 rn2))) = ((qT (kC r rn) (kC r2 rn2)) * 2)) := yI _ _
    have hx17 : ((qT (kC r rn) (kC r2 rn2)) ≤ 64) := aJ _ _
    refine kK (qN 4 [.call [] (.e (.agg [.d (dl (uR (kC r rn) (kC r2 rn2)) (qT (kC r rn) (kC r2 rn2)))])) [] 0 [] none, .no, .no, .b false]) ((_) ∧ (¬ ((0 : Int) < (qT (kC r rn) (kC r2 rn2) : Int)))) [(2, rV 0 0), (3, rV 1 0), (5, iV (y7 k k2)), (21, bV false)] [(0, some (63, (dR k r rn m c s sn))), (1, some (63, (dQ k2 r2 rn2 m2 c2 s2 sn2)))] 2 ⟨(gJ r r2 rn rn2 zo zo zo zo), zo⟩ ?_
    refine yA ?_
    exact qE () [] (P := (kJ 0) ∧ (kJ 0) ∧ (((oS (y7 k k2) (qT (kC r rn) (kC r2 rn2)) 2) : Int) = (y7 k k2)) ∧ (kN [iD k, dl r rn, D.sl (kL m) c, dl s sn]) ∧ (kN [iD k2, dl r2 rn2, D.sl (kL m2) c2, dl s2 sn2])) zk ⟨rfl, rfl, bJ, rfl, rfl⟩ True.intro
  ·refine aO hcx [(2, rV 0 0), (3, rV 1 0), (5, iV (oS (oS (y7 k k2) (qT (kC r rn) (kC r2 rn2)) 2) (ka0 (u9 m m2 c)) 4))] [(0, some (63, (dR k r rn m c s sn))), (1, some (63, (dQ k2 r2 rn2 m2 c2 s2 sn2)))] 2 ?_ ?_
   ·by_cases hx21 : ((0 : Int) < (((ka0 (u9 m m2 c)) : Nat) : Int))
    ·have hx22 : ((ka0 (u9 m m2 c) : Nat) = 0 ∧ oS (oS (y7 k k2) (qT (kC r rn) (kC r2 rn2)) 2) (ka0 (u9 m m2 c)) 4 = oS (y7 k k2) (qT (kC r rn) (kC r2 rn2)) 2) ∨ (1 ≤ ka0 (u9 m m2 c) ∧ oS (oS (y7 k k2) (qT (kC r rn) (kC r2 rn2)) 2) (ka0 (u9 m m2 c)) 4 = oS (y7 k k2) (qT (kC r rn) (kC r2 rn2)) 2 + 4) := mA _ _ _
     have hx23 : 0 ≤ oS (y7 k k2) (qT (kC r rn) (kC r2 rn2)) 2 ∧ oS (y7 k k2) (qT (kC r rn) (kC r2 rn2)) 2 ≤ 3 := (by have h9 := lV k k2; have h8 := mA (y7 k k2) (qT (kC r rn) (kC r2 rn2)) 2; omega)
     have hx24 : ((ka0 (u9 m m2 c)) ≤ c) := cX m m2 c
     refine kK (qN 4 [.call [] (qK (kL (u9 m m2 c)) (ka0 (u9 m m2 c))) [] 0 [] none, .no, .b true]) ((_) ∧ (((0 : Int) < (ka0 (u9 m m2 c) : Int)))) [(2, rV 0 0), (3, rV 1 0), (5, iV (oS (y7 k k2) (qT (kC r rn) (kC r2 rn2)) 2)), (30, bV true)] [(0, some (63, (dR k r rn m c s sn))), (1, some (63, (dQ k2 r2 rn2 m2 c2 s2 sn2)))] 2 ⟨(k51 m m2 c c2 zo zo zo zo (qJ : MsW m) (qJ : MsW m2)), zo⟩ ?_
     refine zt ?_
     refine yT [.no, .i ((oS (y7 k k2) (qT (kC r rn) (kC r2 rn2)) 2) + 4), .no] (qM .or .i64 (oS (y7 k k2) (qT (kC r rn) (kC r2 rn2)) 2) 4 = ((oS (y7 k k2) (qT (kC r rn) (kC r2 rn2)) 2) + 4)) [(2, rV 0 0), (3, rV 1 0), (5, iV ((oS (y7 k k2) (qT (kC r rn) (kC r2 rn2)) 2) + 4))] (v3c zo) ?_
     exact qE () [] (P := (kJ 0) ∧ (kJ 0) ∧ (((oS (oS (y7 k k2) (qT (kC r rn) (kC r2 rn2)) 2) (ka0 (u9 m m2 c)) 4) : Int) = ((oS (y7 k k2) (qT (kC r rn) (kC r2 rn2)) 2) + 4)) ∧ (kN [iD k, dl r rn, D.sl (kL m) c, dl s sn]) ∧ (kN [iD k2, dl r2 rn2, D.sl (kL m2) c2, dl s2 sn2])) zk ⟨rfl, rfl, bJ, rfl, rfl⟩ True.intro
    ·have hx25 : ((ka0 (u9 m m2 c) : Nat) = 0 ∧ oS (oS (y7 k k2) (qT (kC r rn) (kC r2 rn2)) 2) (ka0 (u9 m m2 c)) 4 = oS (y7 k k2) (qT (kC r rn) (kC r2 rn2)) 2) ∨ (1 ≤ ka0 (u9 m m2 c) ∧ oS (oS (y7 k k2) (qT (kC r rn) (kC r2 rn2)) 2) (ka0 (u9 m m2 c)) 4 = oS (y7 k k2) (qT (kC r rn) (kC r2 rn2)) 2 + 4) := mA _ _ _
     have hx26 : 0 ≤ oS (y7 k k2) (qT (kC r rn) (kC r2 rn2)) 2 ∧ oS (y7 k k2) (qT (kC r rn) (kC r2 rn2)) 2 ≤ 3 := (by have h9 := lV k k2; have h8 := mA (y7 k k2) (qT (kC r rn) (kC r2 rn2)) 2; omega)
     have hx27 : ((ka0 (u9 m m2 c)) ≤ c) := cX m m2 c
     refine kK (qN 4 [.call [] (qK (kL (u9 m m2 c)) (ka0 (u9 m m2 c))) [] 0 [] none, .no, .b false]) ((_) ∧ (¬ ((0 : Int) < (ka0 (u9 m m2 c) : Int)))) [(2, rV 0 0), (3, rV 1 0), (5, iV (oS (y7 k k2) (qT (kC r rn) (kC r2 rn2)) 2)), (30, bV false)] [(0, some (63, (dR k r rn m c s sn))), (1, some (63, (dQ k2 r2 rn2 m2 c2 s2 sn2)))] 2 ⟨(k51 m m2 c c2 zo zo zo zo (qJ : MsW m) (qJ : MsW m2)), zo⟩ ?_
     refine yA ?_
     exact qE () [] (P := (kJ 0) ∧ (kJ 0) ∧ (((oS (oS (y7 k k2) (qT (kC r rn) (kC r2 rn2)) 2) (ka0 (u9 m m2 c)) 4) : Int) = (oS (y7 k k2) (qT (kC r rn) (kC r2 rn2)) 2)) ∧ (kN [iD k, dl r rn, D.sl (kL m) c, dl s sn]) ∧ (kN [iD k2, dl r2 rn2, D.sl (kL m2) c2, dl s2 sn2])) zk ⟨rfl, rfl, bJ, rfl, rfl⟩ True.intro
   ·refine aO hcx [(5, iV (oS (oS (oS (y7 k k2) (qT (kC r rn) (kC r2 rn2)) 2) (ka0 (u9 m m2 c)) 4) (qT (kC s sn) (kC s2 sn2)) 8))] [] 2 ?_ ?_
    ·by_cases hx32 : ((0 : Int) < (((qT (kC s sn) (kC s2 sn2)) : Nat) : Int))
     ·have hx33 : ((qT (kC s sn) (kC s2 sn2) : Nat) = 0 ∧ oS (oS (oS (y7 k k2) (qT (kC r rn) (kC r2 rn2)) 2) (ka0 (u9 m m2 c)) 4) (qT (kC s sn) (kC s2 sn2)) 8 = oS (oS (y7 k k2) (qT (kC r rn) (kC r2 rn2)) 2) (ka0 (u9 m m2 c)) 4) ∨ (1 ≤ qT (kC s sn) (kC s2 sn2) ∧ oS (oS (oS (y7 k k2) (qT (kC r rn) (kC r2 rn2)) 2) (ka0 (u9 m m2 c)) 4) (qT (kC s sn) (kC s2 sn2)) 8 = oS (oS (y7 k k2) (qT (kC r rn) (kC r2 rn2)) 2) (ka0 (u9 m m2 c)) 4 + 8) := mA _ _ _
      have hx34 : 0 ≤ oS (oS (y7 k k2) (qT (kC r rn) (kC r2 rn2)) 2) (ka0 (u9 m m2 c)) 4 ∧ oS (oS (y7 k k2) (qT (kC r rn) (kC r2 rn2)) 2) (ka0 (u9 m m2 c)) 4 ≤ 7 := (by have h9 := lV k k2; have h8 := mA (y7 k k2) (qT (kC r rn) (kC r2 rn2)) 2; have h7 := mA (oS (y7 k k2) (qT (kC r rn) (kC r2 rn2)) 2) (ka0 (u9 m m2 c)) 4; omega)
      have hx35 : ((ka0 (uR (kC s sn) (kC s2 sn2))) = ((qT (kC s sn) (kC s2 sn2)) * 2)) := yI _ _
      have hx36 : ((qT (kC s sn) (kC s2 sn2)) ≤ 64) := aJ _ _
      refine kK (qN 4 [.call [] (.e (.agg [.d (dl (uR (kC s sn) (kC s2 sn2)) (qT (kC s sn) (kC s2 sn2)))])) [] 0 [] none, .no, .no, .b true]) ((_) ∧ (((0 : Int) < (qT (kC s sn) (kC s2 sn2) : Int)))) [(5, iV (oS (oS (y7 k k2) (qT (kC r rn) (kC r2 rn2)) 2) (ka0 (u9 m m2 c)) 4)), (40, bV true)] [] 2 ⟨(gJ s s2 sn sn2 zo zo zo zo), zo⟩ ?_
      refine zt ?_
      refine yT [.no, .i ((oS (oS (y7 k k2) (qT (kC r rn) (kC r2 rn2)) 2) (ka0 (u9 m m2 c)) 4) + 8), .no] (qM .or .i64 (oS (oS (y7 k k2) (qT (kC r rn) (kC r2 rn2)) 2) (ka0 (u9 m m2 c)) 4) 8 = ((oS (oS (y7 k k2) (qT (kC r rn) (kC r2 rn2)) 2) (ka0 (u9 m m2 c)) 4) + 8)) [(5, iV ((oS (oS (y7 k k2) (qT (kC r rn) (kC r2 rn2)) 2) (ka0 (u9 m m2 c)) 4) + 8))] (v3b zo) ?_
      exact qE () [] (P := (((oS (oS (oS (y7 k k2) (qT (kC r rn) (kC r2 rn2)) 2) (ka0 (u9 m m2 c)) 4) (qT (kC s sn) (kC s2 sn2)) 8) : Int) = ((oS (oS (y7 k k2) (qT (kC r rn) (kC r2 rn2)) 2) (ka0 (u9 m m2 c)) 4) + 8))) zk bJ True.intro
     ·have hx37 : ((qT (kC s sn) (kC s2 sn2) : Nat) = 0 ∧ oS (oS (oS (y7 k k2) (qT (kC r rn) (kC r2 rn2)) 2) (ka0 (u9 m m2 c)) 4) (qT (kC s sn) (kC s2 sn2)) 8 = oS (oS (y7 k k2) (qT (kC r rn) (kC r2 rn2)) 2) (ka0 (u9 m m2 c)) 4) ∨ (1 ≤ qT (kC s sn) (kC s2 sn2) ∧ oS (oS (oS (y7 k k2) (qT (kC r rn) (kC r2 rn2)) 2) (ka0 (u9 m m2 c)) 4) (qT (kC s sn) (kC s2 sn2)) 8 = oS (oS (y7 k k2) (qT (kC r rn) (kC r2 rn2)) 2) (ka0 (u9 m m2 c)) 4 + 8) := mA _ _ _
      have hx38 : 0 ≤ oS (oS (y7 k k2) (qT (kC r rn) (kC r2 rn2)) 2) (ka0 (u9 m m2 c)) 4 ∧ oS (oS (y7 k k2) (qT (kC r rn) (kC r2 rn2)) 2) (ka0 (u9 m m2 c)) 4 ≤ 7 := (by have h9 := lV k k2; have h8 := mA (y7 k k2) (qT (kC r rn) (kC r2 rn2)) 2; have h7 := mA (oS (y7 k k2) (qT (kC r rn) (kC r2 rn2)) 2) (ka0 (u9 m m2 c)) 4; omega)
      have hx39 : ((ka0 (uR (kC s sn) (kC s2 sn2))) = ((qT (kC s sn) (kC s2 sn2)) * 2)) := yI _ _
      have hx40 : ((qT (kC s sn) (kC s2 sn2)) ≤ 64) := aJ _ _
      refine kK (qN 4 [.call [] (.e (.agg [.d (dl (uR (kC s sn) (kC s2 sn2)) (qT (kC s sn) (kC s2 sn2)))])) [] 0 [] none, .no, .no, .b false]) ((_) ∧ (¬ ((0 : Int) < (qT (kC s sn) (kC s2 sn2) : Int)))) [(5, iV (oS (oS (y7 k k2) (qT (kC r rn) (kC r2 rn2)) 2) (ka0 (u9 m m2 c)) 4)), (40, bV false)] [] 2 ⟨(gJ s s2 sn sn2 zo zo zo zo), zo⟩ ?_
      refine yA ?_
      exact qE () [] (P := (((oS (oS (oS (y7 k k2) (qT (kC r rn) (kC r2 rn2)) 2) (ka0 (u9 m m2 c)) 4) (qT (kC s sn) (kC s2 sn2)) 8) : Int) = (oS (oS (y7 k k2) (qT (kC r rn) (kC r2 rn2)) 2) (ka0 (u9 m m2 c)) 4))) zk bJ True.intro
    ·refine kK [.no, .no] True [(4, iV (oS (oS (oS (y7 k k2) (qT (kC r rn) (kC r2 rn2)) 2) (ka0 (u9 m m2 c)) 4) (qT (kC s sn) (kC s2 sn2)) 8))] [] 2 trivial ?_
     refine AW.ret ?_
     exact kB (.inr rfl) [] (P := (((wG k r rn m c s sn k2 r2 rn2 m2 s2 sn2) : Int) = (oS (oS (oS (y7 k k2) (qT (kC r rn) (kC r2 rn2)) 2) (ka0 (u9 m m2 c)) 4) (qT (kC s sn) (kC s2 sn2)) 8))) zk (by first | rfl | omega)
theorem jU {p : Prop} (h : p := by first | exact decide_eq_true (by omega) | exact decide_eq_false (by omega)) : p := h
theorem v2i (l : List Int) (n : Nat) (v : Int) (hn : ka0 l = n) (h1 : n ≤ 1000000) : Fun 136 [.c (.d (D.sl (dI .i64 l) n)), iE v] (kH []) 0 (yM (D.lit (.bool (ctB l n v)))) (kH []) 0 := by
 refine Fun.mk (n := 9) Tryz.func136 rfl rfl (ka4 rfl) ?_
 intro cx hcx
 refine kK [.no] True [(0, sV .i64 l n), (1, iV v)] [] 0 trivial ?_
 by_cases hx2 : ((0 : Int) ≤ (uW l v n))
 ·have hx3 : ((((-1) : Int) ≤ (uW l v n)) ∧ ((uW l v n) < ((n : Nat) : Int))) := bP l v n
  refine kT [.no, .no, .call [] (iV (uW l v n)) [] 0 [] none, .b true, .no] ((_) ∧ (((0 : Int) ≤ (uW l v n)))) [(4, bV true)] ⟨(oF l n v zo zo), zo⟩ ?_
  refine AW.ret ?_
  exact kB (.inr rfl) [] (P := ((ctB l n v) = true)) zk jU
 ·have hx4 : ((((-1) : Int) ≤ (uW l v n)) ∧ ((uW l v n) < ((n : Nat) : Int))) := bP l v n
  refine kT [.no, .no, .call [] (iV (uW l v n)) [] 0 [] none, .b false, .no] ((_) ∧ (¬ ((0 : Int) ≤ (uW l v n)))) [(4, bV false)] ⟨(oF l n v zo zo), zo⟩ ?_
  refine AW.ret ?_
  exact kB (.inr rfl) [] (P := ((ctB l n v) = false)) zk jU
theorem u5f (d s : Int)  : Fun 137 [iE d, .c (.ptr 0 0)] (kH [(0, some (3, .ds [iD s]))]) 1 (yM (D.lit (.bool (stB d s)))) (kH [(0, some (3, .ds [iD s]))]) 1 := by
 refine Fun.mk (n := 9) Tryz.func137 rfl rfl (ka4 rfl) ?_
 intro cx hcx
 refine kK [.no] True [(0, iV d), (1, rV 0 0)] [(0, some (3, .ds [iD s]))] 1 trivial ?_
 by_cases hx1 : ((qV d s) = s)
 ·refine kT [.no, .no, .i (qV d s), .no, .b true, .no] ((qM .and .i64 d s = (qV d s)) ∧ (((qV d s) = s))) [(3, bV true)] ⟨rfl, zo⟩ ?_
  refine AW.ret ?_
  exact kB (.inr rfl) [] (P := ((stB d s) = true) ∧ (kN [iD s])) zk ⟨jU, rfl⟩
 ·refine kT [.no, .no, .i (qV d s), .no, .b false, .no] ((qM .and .i64 d s = (qV d s)) ∧ (¬ ((qV d s) = s))) [(3, bV false)] ⟨rfl, zo⟩ ?_
  refine AW.ret ?_
  exact kB (.inr rfl) [] (P := ((stB d s) = false) ∧ (kN [iD s])) zk ⟨jU, rfl⟩
theorem u5e (l : List Int) (n : Nat) (s : Int) (hn : ka0 l = n) (h1 : n ≤ 1000000) : Fun 100 [.c (.d (D.sl (dI .i64 l) n)), .c (.fn 137 [(0, 0)])] (kH [(0, some (3, .ds [iD s]))]) 1 (iV (lX l s n)) (kH [(0, some (3, .ds [iD s]))]) 1 := by
 refine Fun.mk (n := 19) Tryz.func100 rfl rfl (ka4 rfl) ?_
 intro cx hcx
 refine kK [.no] True [(0, sV .i64 l n), (1, .e (.c (.fn 137 [(0, 0)])))] [(0, some (3, .ds [iD s]))] 1 trivial ?_
 refine AW.seq ?_
 refine kT [.no, .no, .no] True [(0, sV .i64 l n), (1, .e (.c (.fn 137 [(0, 0)]))), (7, uV n), (8, iV 0)] trivial ?_
 refine AW.block ?_
 refine qH 1 hcx (fun (x : {x : Nat // match x with | k => (k ≤ n) ∧ (lX l s k = -1)}) => match x with | ⟨k, _⟩ => (⟨[(0, sV .i64 l n), (1, .e (.c (.fn 137 [(0, 0)]))), (7, uV n), (8, uV k)], [(0, some (3, .ds [iD s]))], 1⟩ : ES)) (fun x => match x with | ⟨k, _⟩ => n - k) ⟨(0 : Nat), ⟨aZ, rfl⟩⟩ [] (P := (kN (dI .i64 l)) ∧ (kJ n) ∧ (kS (n : Int)) ∧ (kS 0) ∧ (kN [iD s])) zk ⟨rfl, rfl, rfl, rfl, rfl⟩ ?_
 rintro ⟨k, hinv0⟩
 obtain ⟨hk, hi⟩ : (k ≤ n) ∧ (lX l s k = -1) := hinv0
 refine uL (l := [(0, sV .i64 l n), (1, .e (.c (.fn 137 [(0, 0)]))), (7, uV n), (8, uV k)]) (g := [(0, some (3, .ds [iD s]))]) (nx := 1) rfl rfl rfl ?_
 by_cases hx1 : (((k : Nat) : Int) < ((n : Nat) : Int))
 ·refine kK [.b true] (((k : Int) < (n : Int))) [(0, sV .i64 l n), (1, .e (.c (.fn 137 [(0, 0)]))), (7, uV n), (8, uV k), (9, bV true)] [(0, some (3, .ds [iD s]))] 1 zo ?_
  refine AW.seq ?_
  refine vR ?_
  refine AW.seq ?_
  refine AW.block ?_
  refine kT [.no, .no] True [(0, sV .i64 l n), (1, .e (.c (.fn 137 [(0, 0)]))), (5, uV k), (7, uV n), (8, uV k)] trivial ?_
  rcases kb3 (stB (ka1 l k 0) s) with hx2 | hx2
  ·refine kT [.no, .no, .no, .n k, .d (D.lit (.int .i64 (ka1 l k 0))), .call [0] (bV true) [(0, some (3, .ds [iD s]))] 1 [] none] ((kS (k : Int)) ∧ (k < n) ∧ ((ka3 k (dI .i64 l))[0]? = some (D.lit (.int .i64 (ka1 l k 0)))) ∧ (Fun 137 [iE (ka1 l k 0), .c (.ptr 0 0)] (kH [(0, some (3, .ds [iD s]))]) 1 (bV true) (kH [(0, some (3, .ds [iD s]))]) 1)) [(0, sV .i64 l n), (1, .e (.c (.fn 137 [(0, 0)]))), (5, uV k), (7, uV n), (8, uV k), (16, bV true)] ⟨rfl, zo, (yJ _ _ _ dN), (by have h0 := (u5f (ka1 l k 0) s); rw [hx2] at h0; exact h0)⟩ ?_
   refine zt ?_
   refine kT [.no, .no] True [(4, uV k)] trivial ?_
   refine AW.ret ?_
   exact kB (.inr rfl) [] (P := (((lX l s n) : Int) = (k : Int)) ∧ (kN [iD s])) zk ⟨(by first | rfl | exact k2o hi (by assumption) zo | (rw [show n = k by omega]; exact hi) | omega), rfl⟩
  ·refine kT [.no, .no, .no, .n k, .d (D.lit (.int .i64 (ka1 l k 0))), .call [0] (bV false) [(0, some (3, .ds [iD s]))] 1 [] none] ((kS (k : Int)) ∧ (k < n) ∧ ((ka3 k (dI .i64 l))[0]? = some (D.lit (.int .i64 (ka1 l k 0)))) ∧ (Fun 137 [iE (ka1 l k 0), .c (.ptr 0 0)] (kH [(0, some (3, .ds [iD s]))]) 1 (bV false) (kH [(0, some (3, .ds [iD s]))]) 1)) [(0, sV .i64 l n), (1, .e (.c (.fn 137 [(0, 0)]))), (5, uV k), (7, uV n), (8, uV k), (16, bV false)] ⟨rfl, zo, (yJ _ _ _ dN), (by have h0 := (u5f (ka1 l k 0) s); rw [hx2] at h0; exact h0)⟩ ?_
   refine yA ?_
   refine yT [.w, .no] (yQ ((k : Int) + 1)) [(0, sV .i64 l n), (1, .e (.c (.fn 137 [(0, 0)]))), (7, uV n), (8, iV (↑k + 1))] ⟨by omega, by omega⟩ ?_
   exact qE ⟨((k + 1) : Nat), ⟨aZ, (u44 hi (by assumption))⟩⟩ [] (P := (kN (dI .i64 l)) ∧ (kJ n) ∧ (kS (n : Int)) ∧ (c7 k) ∧ (kN [iD s])) zk ⟨rfl, rfl, rfl, bJ, rfl⟩ (show n - (k + 1) < n - k from eI)
 ·refine kK [.b false] (¬ ((k : Int) < (n : Int))) [(0, sV .i64 l n), (1, .e (.c (.fn 137 [(0, 0)]))), (7, uV n), (8, uV k), (9, bV false)] [(0, some (3, .ds [iD s]))] 1 zo ?_
  refine AW.seq ?_
  refine zf ?_
  refine AW.exit ?_
  refine kK [.no] True [(4, iV (-1))] [(0, some (3, .ds [iD s]))] 1 trivial ?_
  refine AW.ret ?_
  exact kB (.inr rfl) [] (P := (((lX l s n) : Int) = (-1)) ∧ (kN [iD s])) zk ⟨(by first | rfl | exact k2o hi (by assumption) zo | (rw [show n = k by omega]; exact hi) | omega), rfl⟩
theorem u8l (l : List Int) (n : Nat) (s : Int) (hn : ka0 l = n) (h1 : n ≤ 1000000) : Fun 66 [.c (.d (D.sl (dI .i64 l) n)), .c (.fn 137 [(0, 0)])] (kH [(0, some (3, .ds [iD s]))]) 1 (yM (D.lit (.bool (o5 l n s)))) (kH [(0, some (3, .ds [iD s]))]) 1 := by
 refine Fun.mk (n := 9) Tryz.func66 rfl rfl (ka4 rfl) ?_
 intro cx hcx
 refine kK [.no] True [(0, sV .i64 l n), (1, .e (.c (.fn 137 [(0, 0)])))] [(0, some (3, .ds [iD s]))] 1 trivial ?_
 by_cases hx1 : ((0 : Int) ≤ (lX l s n))
 ·refine kT [.no, .no, .call [0] (iV (lX l s n)) [(0, some (3, .ds [iD s]))] 1 [] none, .b true, .no] ((_) ∧ (((0 : Int) ≤ (lX l s n)))) [(4, bV true)] ⟨(u5e l n s zo zo), zo⟩ ?_
  refine AW.ret ?_
  exact kB (.inr rfl) [] (P := ((o5 l n s) = true) ∧ (kN [iD s])) zk ⟨jU, rfl⟩
 ·refine kT [.no, .no, .call [0] (iV (lX l s n)) [(0, some (3, .ds [iD s]))] 1 [] none, .b false, .no] ((_) ∧ (¬ ((0 : Int) ≤ (lX l s n)))) [(4, bV false)] ⟨(u5e l n s zo zo), zo⟩ ?_
  refine AW.ret ?_
  exact kB (.inr rfl) [] (P := ((o5 l n s) = false) ∧ (kN [iD s])) zk ⟨jU, rfl⟩
theorem u8k (x : Int) (h1 : 0 ≤ x ∧ x ≤ 15) : Fun 102 [.c (.d (D.lit (.int .u64 x)))] (kH []) 0 (iV (uQ x)) (kH []) 0 := by
 have hxr : (0 ≤ wJ x ∧ wJ x ≤ 5) ∧ (0 ≤ wI x ∧ wI x ≤ 5) ∧ (0 ≤ pQ x ∧ pQ x ≤ 2) ∧ (0 ≤ pP x ∧ pP x ≤ 2) ∧ 0 ≤ uQ x ∧ uQ x ≤ 4 := v3e h1
 refine Fun.mk (n := 35) Tryz.func102 rfl rfl (ka4 rfl) ?_
 intro cx hcx
 refine kK [.no] True [(0, yM (D.lit (.int .u64 x)))] [] 0 trivial ?_
 refine kT [.no, .n 1, .i (wJ x), .no, .i (wI x), .w, .no] ((kS 1) ∧ ((1 : Nat) ≤ 64) ∧ (qM .and .u64 (x / 2) 6148914691236517205 = (wJ x)) ∧ (qM .and .u64 x 6148914691236517205 = (wI x)) ∧ (0 ≤ ((wJ x) + (wI x)) ∧ ((wJ x) + (wI x)) ≤ 18446744073709551615)) [(0, yM (D.lit (.int .u64 ((wJ x) + (wI x)))))] ⟨rfl, zo, (v3k h1), (v3j h1), ⟨by omega, by omega⟩⟩ ?_
 refine kT [.no, .n 2, .i (pQ x), .no, .i (pP x), .w, .no] ((kS 2) ∧ ((2 : Nat) ≤ 64) ∧ (qM .and .u64 (((wJ x) + (wI x)) / 4) 3689348814741910323 = (pQ x)) ∧ (qM .and .u64 ((wJ x) + (wI x)) 3689348814741910323 = (pP x)) ∧ (0 ≤ ((pQ x) + (pP x)) ∧ ((pQ x) + (pP x)) ≤ 18446744073709551615)) [(0, yM (D.lit (.int .u64 ((pQ x) + (pP x)))))] ⟨rfl, zo, (v3i h1), (v3h h1), ⟨by omega, by omega⟩⟩ ?_
 refine kT [.no, .n 4, .no, .w, .i (uQ x), .no] ((kS 4) ∧ ((4 : Nat) ≤ 64) ∧ (0 ≤ ((((pQ x) + (pP x)) / 16) + ((pQ x) + (pP x))) ∧ ((((pQ x) + (pP x)) / 16) + ((pQ x) + (pP x))) ≤ 18446744073709551615) ∧ (qM .and .u64 ((((pQ x) + (pP x)) / 16) + ((pQ x) + (pP x))) 1085102592571150095 = (uQ x))) [(0, yM (D.lit (.int .u64 (uQ x))))] ⟨rfl, zo, ⟨by omega, by omega⟩, (v3g h1 zo)⟩ ?_
 refine kT [.no, .no, .n 8, .w, .no] ((kS 8) ∧ ((8 : Nat) ≤ 64) ∧ (0 ≤ ((uQ x) + ((uQ x) / 256)) ∧ ((uQ x) + ((uQ x) / 256)) ≤ 18446744073709551615)) [(0, yM (D.lit (.int .u64 ((uQ x) + ((uQ x) / 256)))))] ⟨rfl, zo, ⟨by omega, by omega⟩⟩ ?_
 refine kT [.no, .no, .n 16, .w, .no] ((kS 16) ∧ ((16 : Nat) ≤ 64) ∧ (0 ≤ (((uQ x) + ((uQ x) / 256)) + (((uQ x) + ((uQ x) / 256)) / 65536)) ∧ (((uQ x) + ((uQ x) / 256)) + (((uQ x) + ((uQ x) / 256)) / 65536)) ≤ 18446744073709551615)) [(0, yM (D.lit (.int .u64 (((uQ x) + ((uQ x) / 256)) + (((uQ x) + ((uQ x) / 256)) / 65536)))))] ⟨rfl, zo, ⟨by omega, by omega⟩⟩ ?_
 refine kT [.no, .no, .n 32, .w, .no] ((kS 32) ∧ ((32 : Nat) ≤ 64) ∧ (0 ≤ ((((uQ x) + ((uQ x) / 256)) + (((uQ x) + ((uQ x) / 256)) / 65536)) + ((((uQ x) + ((uQ x) / 256)) + (((uQ x) + ((uQ x) / 256)) / 65536)) / 4294967296)) ∧ ((((uQ x) + ((uQ x) / 256)) + (((uQ x) + ((uQ x) / 256)) / 65536)) + ((((uQ x) + ((uQ x) / 256)) + (((uQ x) + ((uQ x) / 256)) / 65536)) / 4294967296)) ≤ 18446744073709551615)) [(0, yM (D.lit (.int .u64 ((((uQ x) + ((uQ x) / 256)) + (((uQ x) + ((uQ x) / 256)) / 65536)) + ((((uQ x) + ((uQ x) / 256)) + (((uQ x) + ((uQ x) / 256)) / 65536)) / 4294967296)))))] ⟨rfl, zo, ⟨by omega, by omega⟩⟩ ?_
 refine kT [.no, .w, .i (uQ x), .no] (((-9223372036854775808) ≤ ((((uQ x) + ((uQ x) / 256)) + (((uQ x) + ((uQ x) / 256)) / 65536)) + ((((uQ x) + ((uQ x) / 256)) + (((uQ x) + ((uQ x) / 256)) / 65536)) / 4294967296)) ∧ ((((uQ x) + ((uQ x) / 256)) + (((uQ x) + ((uQ x) / 256)) / 65536)) + ((((uQ x) + ((uQ x) / 256)) + (((uQ x) + ((uQ x) / 256)) / 65536)) / 4294967296)) ≤ 9223372036854775807) ∧ (qM .and .i64 ((((uQ x) + ((uQ x) / 256)) + (((uQ x) + ((uQ x) / 256)) / 65536)) + ((((uQ x) + ((uQ x) / 256)) + (((uQ x) + ((uQ x) / 256)) / 65536)) / 4294967296)) 127 = (uQ x))) [(2, iV (uQ x))] ⟨⟨by omega, by omega⟩, (v3f h1 zo)⟩ ?_
 refine AW.ret ?_
 exact kB (.inr rfl) [] (P := (kS (uQ x))) zk rfl
theorem z4 (x : Int) (h1 : 0 ≤ x ∧ x ≤ 15) : Fun 67 [.c (.d (D.lit (.int .u64 x)))] (kH []) 0 (iV (uQ x)) (kH []) 0 := by
 refine Fun.mk (n := 8) Tryz.func67 rfl rfl (ka4 rfl) ?_
 intro cx hcx
 refine kK [.no] True [(0, yM (D.lit (.int .u64 x)))] [] 0 trivial ?_
 refine AW.seq ?_
 refine lT (.lit rfl) ?_
 refine AW.skip ?_
 refine kT [.no, .call [] (iV (uQ x)) [] 0 [] none, .no] _ [(2, iV (uQ x))] (u8k x zo) ?_
 refine AW.ret ?_
 exact kB (.inr rfl) [] (P := (kS (uQ x))) zk rfl
abbrev eP (a : List Bx) (i : Nat) : BC := .ds [iD (kU (kM a) i), D.sl (dI .i64 (qG (kM a) i)) (qA (kM a) i), D.sl (kL (kX (kM a) i)) (ka0 (kX (kM a) i)), D.sl (dI .i64 (qF (kM a) i)) (k9 (kM a) i)]
theorem dL (a b : List Bx) (n m : Nat) (hn : ka0 a = n) (hm : ka0 b = m) (h1 : n ≤ 1000) (h2 : m ≤ 1000) (hW : BsW a) (hV : BsW b) : Fun 99 [.c (.d (D.sl (kV a) n)), .c (.d (D.sl (kV b) m))] (kH []) 0 (iV (vY a b)) (kH []) 0 := by
 have hL1 : ka0 (kM a) ≤ 64 ∧ ka0 (kM b) ≤ 64 := ⟨k9q a, k9q b⟩
 refine Fun.mk (n := 63) Tryz.func99 rfl rfl (ka4 rfl) ?_
 intro cx hcx
 refine kK [.no] True [(0, .e (qC a n)), (1, .e (qC b m))] [] 0 trivial ?_
 refine kT [.no] True [(0, .e (qC a n)), (1, .e (qC b m)), (5, nV)] trivial ?_
 refine AW.seq ?_
 have hx1 : ((ka0 (kM a)) ≤ n) := (by have h9 := lN a; omega)
 refine kT [.no, .call [] (.e (vA (kM a))) [] 0 [] none, .no, .no] _ [(1, .e (qC b m)), (5, nV), (14, .e (vA (kM a))), (15, uV (ka0 (kM a))), (16, iV 0)] (jQ a n zo zo (qJ : BsW a)) ?_
 refine AW.block ?_
 refine AW.adoptS 5 1 3 rfl ?_
 refine qH 0 hcx (fun (x : {x : Nat × Nat × List Int // match x with | (i, q, o) => (i ≤ ka0 (kM a)) ∧ (pM (kM a) (kM b) i = o) ∧ (ka0 o = q) ∧ (q ≤ i * 64)}) => match x with | ⟨(i, q, o), _⟩ => (⟨[(1, .e (qC b m)), (5, oV 1 0 q 1), (14, .e (vA (kM a))), (15, uV (ka0 (kM a))), (16, uV i)], [(1, some (3, .ds (dI .i64 o)))], 2⟩ : ES)) (fun x => match x with | ⟨(i, q, o), _⟩ => ka0 (kM a) - i) ⟨((0 : Nat), (0 : Nat), (([] : List Int) : List Int)), ⟨aZ, rfl, rfl, zo⟩⟩ [(1, 0)] (P := (kN (kV b)) ∧ (kJ m) ∧ (kJ 0) ∧ (kJ 0) ∧ (kN (kV (kM a))) ∧ (kJ (ka0 (kM a))) ∧ (kS (ka0 (kM a) : Int)) ∧ (kS 0) ∧ (((dI .i64 ([] : List Int)) : List D) = ([] : List D))) zk ⟨rfl, rfl, rfl, rfl, rfl, rfl, rfl, rfl, (by first | rfl | with_reducible assumption)⟩ ?_
 rintro ⟨⟨i, q, o⟩, hinv0⟩
 obtain ⟨hi, ho, hq, hqm⟩ : (i ≤ ka0 (kM a)) ∧ (pM (kM a) (kM b) i = o) ∧ (ka0 o = q) ∧ (q ≤ i * 64) := hinv0
 refine uL (l := [(1, .e (qC b m)), (5, oV 1 0 q 1), (14, .e (vA (kM a))), (15, uV (ka0 (kM a))), (16, uV i)]) (g := [(1, some (3, .ds (dI .i64 o)))]) (nx := 2) rfl rfl rfl ?_
 by_cases hx2 : (((i : Nat) : Int) < (((ka0 (kM a)) : Nat) : Int))
 ·refine kK [.b true] (((i : Int) < (ka0 (kM a) : Int))) [(1, .e (qC b m)), (5, oV 1 0 q 1), (14, .e (vA (kM a))), (15, uV (ka0 (kM a))), (16, uV i), (17, bV true)] [(1, some (3, .ds (dI .i64 o)))] 2 zo ?_
  refine AW.seq ?_
  refine vR ?_
  refine AW.seq ?_
  refine AW.block ?_
  obtain ⟨hx3, hx4, hx5, hx6, hx7⟩ := BsW.at (eF (qJ : BsW a)) (i)
  have hx8 : ((1 : Nat) ≤ (ka0 (kX (kM a) i))) := tS zo
  refine kK [.n i, .ds (y3 (kM a) i), .no, .no] ((kS (i : Int)) ∧ (i < (ka0 (kM a))) ∧ (List.take 4 (ka3 (i * 4) (kV (kM a))) = (y3 (kM a) i)) ∧ (((y3 (kM a) i) : List D).length = 4)) [(1, .e (qC b m)), (5, oV 1 0 q 1), (7, rV 2 0), (14, .e (vA (kM a))), (15, uV (ka0 (kM a))), (16, uV i)] [(1, some (3, .ds (dI .i64 o))), (2, some (63, (eP a i)))] 3 ⟨rfl, zo, (vQ k06), rfl⟩ ?_
  have hx9 : ((ka0 (kM b)) ≤ m) := (by have h9 := lN b; omega)
  refine kT [.no, .call [] (.e (vA (kM b))) [] 0 [] none, .no, .no] _ [(1, .e (qC b m)), (5, oV 1 0 q 1), (7, rV 2 0), (14, .e (vA (kM a))), (15, uV (ka0 (kM a))), (16, uV i), (21, .e (vA (kM b))), (22, uV (ka0 (kM b))), (23, iV 0)] (jQ b m zo zo (qJ : BsW b)) ?_
  refine AW.block ?_
  refine qH 0 hcx (fun (x : {x : Nat × Nat × List Int // match x with | (j, p, x) => (j ≤ ka0 (kM b)) ∧ (prJ (kM a) (kM b) i j = x) ∧ (ka0 x = p) ∧ (p ≤ i * 64 + j)}) => match x with | ⟨(j, p, x), _⟩ => (⟨[(1, .e (qC b m)), (5, oV 3 0 p 1), (7, rV 2 0), (14, .e (vA (kM a))), (15, uV (ka0 (kM a))), (16, uV i), (21, .e (vA (kM b))), (22, uV (ka0 (kM b))), (23, uV j)], [(3, some (3, .ds (dI .i64 x))), (2, some (63, (eP a i)))], 4⟩ : ES)) (fun x => match x with | ⟨(j, p, x), _⟩ => ka0 (kM b) - j) ⟨((0 : Nat), (q : Nat), (o : List Int)), ⟨aZ, (v06 ho), (by first | assumption | omega), zo⟩⟩ [(3, 1)] (P := (kN (kV b)) ∧ (kJ m) ∧ (kJ 0) ∧ (kJ q) ∧ (kJ 0) ∧ (kN (kV (kM a))) ∧ (kJ (ka0 (kM a))) ∧ (kS (ka0 (kM a) : Int)) ∧ (kS (i : Int)) ∧ (kN (kV (kM b))) ∧ (kJ (ka0 (kM b))) ∧ (kS (ka0 (kM b) : Int)) ∧ (kS 0) ∧ (kN (dI .i64 o)) ∧ (kN (y3 (kM a) i))) zk ⟨rfl, rfl, rfl, rfl, rfl, rfl, rfl, rfl, rfl, rfl, rfl, rfl, rfl, rfl, rfl⟩ ?_
  rintro ⟨⟨j, p, x⟩, hinv1⟩
  obtain ⟨hj, hJ, hp, hpm⟩ : (j ≤ ka0 (kM b)) ∧ (prJ (kM a) (kM b) i j = x) ∧ (ka0 x = p) ∧ (p ≤ i * 64 + j) := hinv1
  refine uL (l := [(1, .e (qC b m)), (5, oV 3 0 p 1), (7, rV 2 0), (14, .e (vA (kM a))), (15, uV (ka0 (kM a))), (16, uV i), (21, .e (vA (kM b))), (22, uV (ka0 (kM b))), (23, uV j)]) (g := [(3, some (3, .ds (dI .i64 x))), (2, some (63, (eP a i)))]) (nx := 4) rfl rfl rfl ?_
  by_cases hx10 : (((j : Nat) : Int) < (((ka0 (kM b)) : Nat) : Int))
  ·refine kK [.b true] (((j : Int) < (ka0 (kM b) : Int))) [(1, .e (qC b m)), (5, oV 3 0 p 1), (7, rV 2 0), (14, .e (vA (kM a))), (15, uV (ka0 (kM a))), (16, uV i), (21, .e (vA (kM b))), (22, uV (ka0 (kM b))), (23, uV j), (24, bV true)] [(2, some (63, (eP a i))), (3, some (3, .ds (dI .i64 x)))] 4 zo ?_
   refine AW.seq ?_
   refine vR ?_
   refine AW.seq ?_
   refine AW.block ?_
   obtain ⟨hx11, hx12, hx13, hx14, hx15⟩ := BsW.at (eF (qJ : BsW b)) (j)
   have hx16 : ((1 : Nat) ≤ (ka0 (kX (kM b) j))) := tS zo
   refine kK [.n j, .ds (y3 (kM b) j), .no, .no] ((kS (j : Int)) ∧ (j < (ka0 (kM b))) ∧ (List.take 4 (ka3 (j * 4) (kV (kM b))) = (y3 (kM b) j)) ∧ (((y3 (kM b) j) : List D).length = 4)) [(1, .e (qC b m)), (5, oV 3 0 p 1), (7, rV 2 0), (9, rV 4 0), (14, .e (vA (kM a))), (15, uV (ka0 (kM a))), (16, uV i), (21, .e (vA (kM b))), (22, uV (ka0 (kM b))), (23, uV j)] [(2, some (63, (eP a i))), (3, some (3, .ds (dI .i64 x))), (4, some (63, .ds (y3 (kM b) j)))] 5 ⟨rfl, zo, (vQ k06), rfl⟩ ?_
   have hx17 : (((0 : Int) ≤ (wG (kU (kM a) i) (qG (kM a) i) (qA (kM a) i) (kX (kM a) i) (ka0 (kX (kM a) i)) (qF (kM a) i) (k9 (kM a) i) (kU (kM b) j) (qG (kM b) j) (qA (kM b) j) (kX (kM b) j) (qF (kM b) j) (k9 (kM b) j))) ∧ ((wG (kU (kM a) i) (qG (kM a) i) (qA (kM a) i) (kX (kM a) i) (ka0 (kX (kM a) i)) (qF (kM a) i) (k9 (kM a) i) (kU (kM b) j) (qG (kM b) j) (qA (kM b) j) (kX (kM b) j) (qF (kM b) j) (k9 (kM b) j)) ≤ 15)) := u10 ..
   refine aG [.no, .no, .no, .call [] (iV (wG (kU (kM a) i) (qG (kM a) i) (qA (kM a) i) (kX (kM a) i) (ka0 (kX (kM a) i)) (qF (kM a) i) (k9 (kM a) i) (kU (kM b) j) (qG (kM b) j) (qA (kM b) j) (kX (kM b) j) (qF (kM b) j) (k9 (kM b) j))) [] 0 [] none, .no, .ap none (p + 1) (dI .i64 (x ++ ([(wG (kU (kM a) i) (qG (kM a) i) (qA (kM a) i) (kX (kM a) i) (ka0 (kX (kM a) i)) (qF (kM a) i) (k9 (kM a) i) (kU (kM b) j) (qG (kM b) j) (qA (kM b) j) (kX (kM b) j) (qF (kM b) j) (k9 (kM b) j))] : List Int))), .no] ((_) ∧ ([iD (wG (kU (kM a) i) (qG (kM a) i) (qA (kM a) i) (kX (kM a) i) (ka0 (kX (kM a) i)) (qF (kM a) i) (k9 (kM a) i) (kU (kM b) j) (qG (kM b) j) (qA (kM b) j) (kX (kM b) j) (qF (kM b) j) (k9 (kM b) j))].length = 1 * 1) ∧ (((dI .i64 x) : List D).length = p * 1) ∧ ((p + 1) * 8 ≤ 140737488355328) ∧ (p + 1 = (p + 1)) ∧ (((dI .i64 x) : List D) ++ [iD (wG (kU (kM a) i) (qG (kM a) i) (qA (kM a) i) (kX (kM a) i) (ka0 (kX (kM a) i)) (qF (kM a) i) (k9 (kM a) i) (kU (kM b) j) (qG (kM b) j) (qA (kM b) j) (kX (kM b) j) (qF (kM b) j) (k9 (kM b) j))] = (dI .i64 (x ++ ([(wG (kU (kM a) i) (qG (kM a) i) (qA (kM a) i) (kX (kM a) i) (ka0 (kX (kM a) i)) (qF (kM a) i) (k9 (kM a) i) (kU (kM b) j) (qG (kM b) j) (qA (kM b) j) (kX (kM b) j) (qF (kM b) j) (k9 (kM b) j))] : List Int))))) [(1, .e (qC b m)), (5, oV 6 0 (p + 1) 1), (7, rV 2 0), (14, .e (vA (kM a))), (15, uV (ka0 (kM a))), (16, uV i), (21, .e (vA (kM b))), (22, uV (ka0 (kM b))), (23, uV j)] [(2, some (63, (eP a i))), (6, some (3, .ds (dI .i64 (x ++ ([(wG (kU (kM a) i) (qG (kM a) i) (qA (kM a) i) (kX (kM a) i) (ka0 (kX (kM a) i)) (qF (kM a) i) (k9 (kM a) i) (kU (kM b) j) (qG (kM b) j) (qA (kM b) j) (kX (kM b) j) (qF (kM b) j) (k9 (kM b) j))] : List Int)))))] 7 ⟨(v4j (kU (kM a) i) (qG (kM a) i) (qA (kM a) i) (kX (kM a) i) (ka0 (kX (kM a) i)) (qF (kM a) i) (k9 (kM a) i) (kU (kM b) j) (qG (kM b) j) (qA (kM b) j) (kX (kM b) j) (ka0 (kX (kM b) j)) (qF (kM b) j) (k9 (kM b) j) bK bK rfl bK bK bK (BsW.ms (eF (qJ : BsW a)) _) bK bK rfl bK bK bK (BsW.ms (eF (qJ : BsW b)) _)), dN, dN, zo, zo, (y9 .i64 x ([(wG (kU (kM a) i) (qG (kM a) i) (qA (kM a) i) (kX (kM a) i) (ka0 (kX (kM a) i)) (qF (kM a) i) (k9 (kM a) i) (kU (kM b) j) (qG (kM b) j) (qA (kM b) j) (kX (kM b) j) (qF (kM b) j) (k9 (kM b) j))] : List Int))⟩ ?_
   refine yT [.w, .no] (yQ ((j : Int) + 1)) [(1, .e (qC b m)), (5, oV 6 0 (p + 1) 1), (7, rV 2 0), (14, .e (vA (kM a))), (15, uV (ka0 (kM a))), (16, uV i), (21, .e (vA (kM b))), (22, uV (ka0 (kM b))), (23, iV (↑j + 1))] ⟨by omega, by omega⟩ ?_
   exact qE ⟨(((j + 1) : Nat), ((p + 1) : Nat), ((x ++ ([(wG (kU (kM a) i) (qG (kM a) i) (qA (kM a) i) (kX (kM a) i) (ka0 (kX (kM a) i)) (qF (kM a) i) (k9 (kM a) i) (kU (kM b) j) (qG (kM b) j) (qA (kM b) j) (kX (kM b) j) (qF (kM b) j) (k9 (kM b) j))] : List Int)) : List Int)), ⟨aZ, (v04 hJ rfl), k05, zo⟩⟩ [(3, 6)] (P := (kN (kV b)) ∧ (kJ m) ∧ (kJ 0) ∧ (kJ (p + 1)) ∧ (kJ 0) ∧ (kN (kV (kM a))) ∧ (kJ (ka0 (kM a))) ∧ (kS (ka0 (kM a) : Int)) ∧ (kS (i : Int)) ∧ (kN (kV (kM b))) ∧ (kJ (ka0 (kM b))) ∧ (kS (ka0 (kM b) : Int)) ∧ (c7 j) ∧ (kN (dI .i64 (x ++ ([(wG (kU (kM a) i) (qG (kM a) i) (qA (kM a) i) (kX (kM a) i) (ka0 (kX (kM a) i)) (qF (kM a) i) (k9 (kM a) i) (kU (kM b) j) (qG (kM b) j) (qA (kM b) j) (kX (kM b) j) (qF (kM b) j) (k9 (kM b) j))] : List Int)))) ∧ (kN (y3 (kM a) i))) zk ⟨rfl, rfl, rfl, rfl, rfl, rfl, rfl, rfl, rfl, rfl, rfl, rfl, bJ, rfl, rfl⟩ (show ka0 (kM b) - (j + 1) < ka0 (kM b) - j from eI)
  ·refine kK [.b false] (¬ ((j : Int) < (ka0 (kM b) : Int))) [(1, .e (qC b m)), (5, oV 3 0 p 1), (7, rV 2 0), (14, .e (vA (kM a))), (15, uV (ka0 (kM a))), (16, uV i), (21, .e (vA (kM b))), (22, uV (ka0 (kM b))), (23, uV j), (24, bV false)] [(2, some (63, (eP a i))), (3, some (3, .ds (dI .i64 x)))] 4 zo ?_
   refine AW.seq ?_
   refine zf ?_
   refine AW.exit ?_
   refine aG [.w, .no] (yQ ((i : Int) + 1)) [(1, .e (qC b m)), (5, oV 3 0 p 1), (14, .e (vA (kM a))), (15, uV (ka0 (kM a))), (16, iV (↑i + 1))] [(3, some (3, .ds (dI .i64 x)))] 4 ⟨by omega, by omega⟩ ?_
   exact qE ⟨(((i + 1) : Nat), (p : Nat), (x : List Int)), ⟨aZ, (v05 hJ zo), (by first | assumption | omega), zo⟩⟩ [(1, 3)] (P := (kN (kV b)) ∧ (kJ m) ∧ (kJ 0) ∧ (kJ p) ∧ (kN (kV (kM a))) ∧ (kJ (ka0 (kM a))) ∧ (kS (ka0 (kM a) : Int)) ∧ (c7 i) ∧ (kN (dI .i64 x))) zk ⟨rfl, rfl, rfl, rfl, rfl, rfl, rfl, bJ, rfl⟩ (show ka0 (kM a) - (i + 1) < ka0 (kM a) - i from eI)
 ·refine kK [.b false] (¬ ((i : Int) < (ka0 (kM a) : Int))) [(1, .e (qC b m)), (5, oV 1 0 q 1), (14, .e (vA (kM a))), (15, uV (ka0 (kM a))), (16, uV i), (17, bV false)] [(1, some (3, .ds (dI .i64 o)))] 2 zo ?_
  refine AW.seq ?_
  refine zf ?_
  refine AW.exit ?_
  refine AW.seq ?_
  rcases kb3 (ctB o q 15) with hx18 | hx18
  ·refine AW.freeze 1 (l' := [(1, .e (qC b m)), (5, sV .i64 o q), (14, .e (vA (kM a))), (15, uV (ka0 (kM a))), (16, uV i), (17, bV false)]) (g' := []) rfl (FzS.cons rfl (.same _) (FzS.cons rfl (.e (.c (@FzC.own 1 ((dI .i64 o) : List D) 0 q 1 true ((dI .i64 o) : List D) k07 dN))) (FzS.cons rfl (.same _) (FzS.cons rfl (.same _) (FzS.cons rfl (.same _) (FzS.cons rfl (.same _) FzS.nil)))))) FzG.nil ?_
   refine kK [.no, .call [] (bV true) [] 0 [] none] (Fun 136 [.c (.d (dl o q)), iE 15] (kH []) 0 (bV true) (kH []) 0) [(5, sV .i64 o q), (36, bV true)] [] 2 (by have h0 := (v2i o q 15 zo zo); rw [hx18] at h0; exact h0) ?_
   refine zt ?_
   refine kT [.no] True [(4, iV 0)] trivial ?_
   refine AW.ret ?_
   exact kB (.inr rfl) [] (P := (((vY a b) : Int) = 0)) zk (by first | exact v1z ho zo hq (by assumption) | exact v1y ho zo hq (by assumption) hy zo)
  ·refine AW.freeze 1 (l' := [(1, .e (qC b m)), (5, sV .i64 o q), (14, .e (vA (kM a))), (15, uV (ka0 (kM a))), (16, uV i), (17, bV false)]) (g' := []) rfl (FzS.cons rfl (.same _) (FzS.cons rfl (.e (.c (@FzC.own 1 ((dI .i64 o) : List D) 0 q 1 true ((dI .i64 o) : List D) k07 dN))) (FzS.cons rfl (.same _) (FzS.cons rfl (.same _) (FzS.cons rfl (.same _) (FzS.cons rfl (.same _) FzS.nil)))))) FzG.nil ?_
   refine kK [.no, .call [] (bV false) [] 0 [] none] (Fun 136 [.c (.d (dl o q)), iE 15] (kH []) 0 (bV false) (kH []) 0) [(5, sV .i64 o q), (36, bV false)] [] 2 (by have h0 := (v2i o q 15 zo zo); rw [hx18] at h0; exact h0) ?_
   refine yA ?_
   refine kT [.no] True [(5, sV .i64 o q), (10, iV 15)] trivial ?_
   refine AW.seq ?_
   refine kK [.no, .no] True [(5, sV .i64 o q), (10, iV 15), (11, rV 2 0)] [(2, some (3, .ds [iD 14]))] 3 trivial ?_
   refine AW.block ?_
   refine qH 0 hcx (fun (x : {x : Nat × Int // match x with | (z, y) => (z ≤ 14 ∧ 0 ≤ y ∧ y ≤ 15) ∧ (cK o q z = y)}) => match x with | ⟨(z, y), _⟩ => (⟨[(5, sV .i64 o q), (10, iV y), (11, rV 3 0)], [(3, some (3, .ds [iD (14 - (z : Int))]))], 4⟩ : ES)) (fun x => match x with | ⟨(z, y), _⟩ => 14 - z) ⟨((0 : Nat), (15 : Int)), ⟨aZ, rfl⟩⟩ [(3, 2)] (P := (kN (dI .i64 o)) ∧ (kJ q) ∧ (kS 15) ∧ (kJ 0) ∧ (kN [iD 14])) zk ⟨rfl, rfl, rfl, rfl, rfl⟩ ?_
   rintro ⟨⟨z, y⟩, hinv2⟩
   obtain ⟨hz, hy⟩ : (z ≤ 14 ∧ 0 ≤ y ∧ y ≤ 15) ∧ (cK o q z = y) := hinv2
   refine uL (l := [(5, sV .i64 o q), (10, iV y), (11, rV 3 0)]) (g := [(3, some (3, .ds [iD (14 - (z : Int))]))]) (nx := 4) rfl rfl rfl ?_
   refine AW.seq ?_
   by_cases hx19 : ((0 : Int) < (14 - ((z : Nat) : Int)))
   ·refine kK [.no, .b true] (((0 : Int) < (14 - (z : Int)))) [(5, sV .i64 o q), (10, iV y), (11, rV 3 0), (38, bV true)] [(3, some (3, .ds [iD (14 - ↑z)]))] 4 zo ?_
    refine vR ?_
    refine AW.seq ?_
    refine AW.block ?_
    refine kT [.no, .no] True [(5, sV .i64 o q), (10, iV y), (11, rV 3 0), (12, .e (.c (.fn 137 [(3, 0)])))] trivial ?_
    by_cases hx20 : ((0 : Int) < ((q : Nat) : Int))
    ·rcases kb3 (o5 o q (14 - ((z : Nat) : Int))) with hx21 | hx21
     ·refine kT [.no, .no, .b true, .no, .no, .no, .call [3] (bV true) [(0, some (3, .ds [iD (14 - (z : Int))]))] 1 [] none, .no, .no, .no, .no] ((((0 : Int) < (q : Int))) ∧ (Fun 66 [.c (.d (dl o q)), .c (.fn 137 [(0, 0)])] (kH [(0, some (3, .ds [iD (14 - (z : Int))]))]) 1 (bV true) (kH [(0, some (3, .ds [iD (14 - (z : Int))]))]) 1)) [(5, sV .i64 o q), (10, iV y), (11, rV 3 0), (59, bV false)] ⟨zo, (by have h0 := (u8l o q (14 - (z : Int)) zo zo); rw [hx21] at h0; exact h0)⟩ ?_
      refine yA ?_
      refine AW.seq ?_
      refine kK [.no] True [(5, sV .i64 o q), (10, iV y), (61, iV (14 - ↑z))] [] 4 trivial ?_
      refine aG [.no, .no] True [(5, sV .i64 o q), (10, iV y), (11, rV 4 0)] [(4, some (3, .ds [iD (14 - ↑z)]))] 5 trivial ?_
      refine aG [.no, .w, .no] (yQ ((14 - (z : Int)) - 1)) [(5, sV .i64 o q), (10, iV y), (11, rV 4 0)] [(4, some (3, .ds [iD ((14 - ↑z) - 1)]))] 5 ⟨by omega, by omega⟩ ?_
      exact qE ⟨(((z + 1) : Nat), (y : Int)), ⟨aZ, (by first | exact u2x hy zo (by assumption) zo rfl | exact u31 hy zo | exact u2z hy (by assumption) | exact u2y hy zo)⟩⟩ [(3, 4)] (P := (kN (dI .i64 o)) ∧ (kJ q) ∧ (kS y) ∧ (kJ 0) ∧ (([iD (14 - (((z + 1) : Nat) : Int))] : List D) = [iD ((14 - (z : Int)) - 1)])) zk ⟨rfl, rfl, rfl, rfl, (by first | rfl | with_reducible assumption | (rw [show (14 - ((z + 1 : Nat) : Int)) = 14 - (z : Int) - 1 by omega]))⟩ (show 14 - (z + 1) < 14 - z from eI)
     ·by_cases hx22 : ((uQ (14 - ((z : Nat) : Int))) ≤ (uQ y))
      ·refine kT [.no, .no, .b true, .no, .no, .no, .call [3] (bV false) [(0, some (3, .ds [iD (14 - (z : Int))]))] 1 [] none, .no, .no, .no, .no, .w, .call [] (iV (uQ (14 - (z : Int)))) [] 0 [] none, .no, .w, .call [] (iV (uQ y)) [] 0 [] none, .b true, .no] ((((0 : Int) < (q : Int))) ∧ (Fun 66 [.c (.d (dl o q)), .c (.fn 137 [(0, 0)])] (kH [(0, some (3, .ds [iD (14 - (z : Int))]))]) 1 (bV false) (kH [(0, some (3, .ds [iD (14 - (z : Int))]))]) 1) ∧ (0 ≤ (14 - (z : Int)) ∧ (14 - (z : Int)) ≤ 18446744073709551615) ∧ (_) ∧ (0 ≤ y ∧ y ≤ 18446744073709551615) ∧ (_) ∧ (((uQ (14 - (z : Int))) ≤ (uQ y)))) [(5, sV .i64 o q), (10, iV y), (11, rV 3 0), (59, bV true)] ⟨zo, (by have h0 := (u8l o q (14 - (z : Int)) zo zo); rw [hx21] at h0; exact h0), ⟨by omega, by omega⟩, (z4 (14 - (z : Int)) zo), ⟨by omega, by omega⟩, (z4 y zo), zo⟩ ?_
       refine zt ?_
       refine yT [.no, .no] True [(5, sV .i64 o q), (10, iV (14 - ↑z)), (11, rV 3 0)] trivial ?_
       refine AW.seq ?_
       refine kK [.no] True [(5, sV .i64 o q), (10, iV (14 - ↑z)), (61, iV (14 - ↑z))] [] 4 trivial ?_
       refine aG [.no, .no] True [(5, sV .i64 o q), (10, iV (14 - ↑z)), (11, rV 4 0)] [(4, some (3, .ds [iD (14 - ↑z)]))] 5 trivial ?_
       refine aG [.no, .w, .no] (yQ ((14 - (z : Int)) - 1)) [(5, sV .i64 o q), (10, iV (14 - ↑z)), (11, rV 4 0)] [(4, some (3, .ds [iD ((14 - ↑z) - 1)]))] 5 ⟨by omega, by omega⟩ ?_
       exact qE ⟨(((z + 1) : Nat), ((14 - (z : Int)) : Int)), ⟨aZ, (by first | exact u2x hy zo (by assumption) zo rfl | exact u31 hy zo | exact u2z hy (by assumption) | exact u2y hy zo)⟩⟩ [(3, 4)] (P := (kN (dI .i64 o)) ∧ (kJ q) ∧ (kS (14 - (z : Int))) ∧ (kJ 0) ∧ (([iD (14 - (((z + 1) : Nat) : Int))] : List D) = [iD ((14 - (z : Int)) - 1)])) zk ⟨rfl, rfl, rfl, rfl, (by first | rfl | with_reducible assumption | (rw [show (14 - ((z + 1 : Nat) : Int)) = 14 - (z : Int) - 1 by omega]))⟩ (show 14 - (z + 1) < 14 - z from eI)
      ·refine kT [.no, .no, .b true, .no, .no, .no, .call [3] (bV false) [(0, some (3, .ds [iD (14 - (z : Int))]))] 1 [] none, .no, .no, .no, .no, .w, .call [] (iV (uQ (14 - (z : Int)))) [] 0 [] none, .no, .w, .call [] (iV (uQ y)) [] 0 [] none, .b false, .no] ((((0 : Int) < (q : Int))) ∧ (Fun 66 [.c (.d (dl o q)), .c (.fn 137 [(0, 0)])] (kH [(0, some (3, .ds [iD (14 - (z : Int))]))]) 1 (bV false) (kH [(0, some (3, .ds [iD (14 - (z : Int))]))]) 1) ∧ (0 ≤ (14 - (z : Int)) ∧ (14 - (z : Int)) ≤ 18446744073709551615) ∧ (_) ∧ (0 ≤ y ∧ y ≤ 18446744073709551615) ∧ (_) ∧ (¬ ((uQ (14 - (z : Int))) ≤ (uQ y)))) [(5, sV .i64 o q), (10, iV y), (11, rV 3 0), (59, bV false)] ⟨zo, (by have h0 := (u8l o q (14 - (z : Int)) zo zo); rw [hx21] at h0; exact h0), ⟨by omega, by omega⟩, (z4 (14 - (z : Int)) zo), ⟨by omega, by omega⟩, (z4 y zo), zo⟩ ?_
       refine yA ?_
       refine AW.seq ?_
       refine kK [.no] True [(5, sV .i64 o q), (10, iV y), (61, iV (14 - ↑z))] [] 4 trivial ?_
       refine aG [.no, .no] True [(5, sV .i64 o q), (10, iV y), (11, rV 4 0)] [(4, some (3, .ds [iD (14 - ↑z)]))] 5 trivial ?_
       refine aG [.no, .w, .no] (yQ ((14 - (z : Int)) - 1)) [(5, sV .i64 o q), (10, iV y), (11, rV 4 0)] [(4, some (3, .ds [iD ((14 - ↑z) - 1)]))] 5 ⟨by omega, by omega⟩ ?_
       exact qE ⟨(((z + 1) : Nat), (y : Int)), ⟨aZ, (by first | exact u2x hy zo (by assumption) zo rfl | exact u31 hy zo | exact u2z hy (by assumption) | exact u2y hy zo)⟩⟩ [(3, 4)] (P := (kN (dI .i64 o)) ∧ (kJ q) ∧ (kS y) ∧ (kJ 0) ∧ (([iD (14 - (((z + 1) : Nat) : Int))] : List D) = [iD ((14 - (z : Int)) - 1)])) zk ⟨rfl, rfl, rfl, rfl, (by first | rfl | with_reducible assumption | (rw [show (14 - ((z + 1 : Nat) : Int)) = 14 - (z : Int) - 1 by omega]))⟩ (show 14 - (z + 1) < 14 - z from eI)
    ·refine kT (.no :: .no :: .b false :: qN 4 []) (¬ ((0 : Int) < (q : Int))) [(5, sV .i64 o q), (10, iV y), (11, rV 3 0), (59, bV false)] zo ?_
     refine yA ?_
     refine AW.seq ?_
     refine kK [.no] True [(5, sV .i64 o q), (10, iV y), (61, iV (14 - ↑z))] [] 4 trivial ?_
     refine aG [.no, .no] True [(5, sV .i64 o q), (10, iV y), (11, rV 4 0)] [(4, some (3, .ds [iD (14 - ↑z)]))] 5 trivial ?_
     refine aG [.no, .w, .no] (yQ ((14 - (z : Int)) - 1)) [(5, sV .i64 o q), (10, iV y), (11, rV 4 0)] [(4, some (3, .ds [iD ((14 - ↑z) - 1)]))] 5 ⟨by omega, by omega⟩ ?_
     exact qE ⟨(((z + 1) : Nat), (y : Int)), ⟨aZ, (by first | exact u2x hy zo (by assumption) zo rfl | exact u31 hy zo | exact u2z hy (by assumption) | exact u2y hy zo)⟩⟩ [(3, 4)] (P := (kN (dI .i64 o)) ∧ (kJ q) ∧ (kS y) ∧ (kJ 0) ∧ (([iD (14 - (((z + 1) : Nat) : Int))] : List D) = [iD ((14 - (z : Int)) - 1)])) zk ⟨rfl, rfl, rfl, rfl, (by first | rfl | with_reducible assumption | (rw [show (14 - ((z + 1 : Nat) : Int)) = 14 - (z : Int) - 1 by omega]))⟩ (show 14 - (z + 1) < 14 - z from eI)
   ·refine kK [.no, .b false] (¬ ((0 : Int) < (14 - (z : Int)))) [(5, sV .i64 o q), (10, iV y), (11, rV 3 0), (38, bV false)] [(3, some (3, .ds [iD (14 - ↑z)]))] 4 zo ?_
    refine zf ?_
    refine AW.exit ?_
    refine kK [.no, .no] True [(4, iV y)] [] 4 trivial ?_
    refine AW.ret ?_
    exact kB (.inr rfl) [] (P := (((vY a b) : Int) = y)) zk (by first | exact v1z ho zo hq (by assumption) | exact v1y ho zo hq (by assumption) hy zo)
end Go.Proofs.YtbicifcgghmhaaaGreat
