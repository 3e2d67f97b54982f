/- Sums of bytes. No statement is proved here. -/
import Derived.Test.YtalbpleglapihaaZLWi
import Derived.Test.YtalbpleglapihaaZL10M
import Derived.Test.YtalbpleglapihaaZL10G
import Derived.Test.YtalbpleglapihaaZW10
namespace Go.Proofs.Ytalbpleglapihaa
open Go.ChangeShapes Go.WideShapes Go.ChangeAt Go.RowKit
open List renaming getD → ka0, length_append → ka4, length_cons → kb2, length_drop → kb1, length_map → kd0, length_nil → kb5, length_replicate → kb4, length_reverse → kc8, length_set → kc4, length_take → kb3
set_option linter.unusedVariables false
set_option linter.unusedSimpArgs false
/-! chapter 11: sums of bytes -/
set_option maxHeartbeats 4000000
set_option maxRecDepth 100000
def yZ (a b : Int) : Int := qK .xor .u32 a b
def nJ (a : Int) : Int := qK .and .u32 a 1
theorem jL (a b : Int) : qK .xor .u32 a b = yZ a b := rfl
theorem k7b (a : Int) : qK .and .u32 a 1 = nJ a := rfl
theorem k7m (a b : Int) : yZ a b = ((BitVec.ofInt 32 a ^^^ BitVec.ofInt 32 b).toNat : Int) := by
  show IntKind.u32.wrap _ = _
  exact v4 (by simp only [rG]; have := (BitVec.ofInt 32 a ^^^ BitVec.ofInt 32 b).isLt; exact ⟨by omega, by show (((BitVec.ofInt 32 a ^^^ BitVec.ofInt 32 b).toNat : Nat) : Int) ≤ 4294967295; omega⟩)
theorem yM (a b : Int) : 0 ≤ yZ a b ∧ yZ a b ≤ 4294967295 := by
  rw [k7m]; have := (BitVec.ofInt 32 a ^^^ BitVec.ofInt 32 b).isLt; omega
def yU (r : Int) : Nat → Int
  | 0 => r
  | k + 1 => if nJ (yU r k) = 1 then yZ (yU r k / 2) 3988292384 else yU r k / 2
theorem aV {r z : Int} {k : Nat} (h : yU r k = z) (h1 : nJ z = 1) : yU r (k + 1) = yZ (z / 2) 3988292384 := by subst h; exact if_pos h1
theorem aW {r z : Int} {k : Nat} (h : yU r k = z) (h1 : ¬ nJ z = 1) : yU r (k + 1) = z / 2 := by subst h; exact if_neg h1
def rF (l : List Int) : Nat → Int
  | 0 => 4294967295
  | k + 1 => yU (yZ (rF l k) (ka0 l k 0)) 8
theorem xF {l : List Int} {y z : Int} {k : Nat} (h : rF l k = y) (h1 : yU (yZ y (ka0 l k 0)) 8 = z) : rF l (k + 1) = z := by subst h; exact h1
theorem u0r (l : List Int) : rF l 0 = 4294967295 := rfl
theorem u2a (x : Int) : yU x 0 = x := rfl
def qR (l : List Int) : Int := yZ 4294967295 (rF l l.length)
theorem dG (l : List Int) : 0 ≤ qR l ∧ qR l ≤ 4294967295 := yM _ _
theorem z6 {l : List Int} {y : Int} {k m : Nat} (hm : l.length = m) (hk : k = m) (h : rF l k = y) : yZ 4294967295 y = qR l := by subst hk; subst hm; subst h; rfl
attribute [local irreducible] yU rF qR yZ nJ
theorem aB {p : Prop} (h : p := by first | omega | assumption | simp) : p := h
theorem eP {p : Prop} (h : p := by first | rfl | omega | assumption | (simp; done) | (simp; omega)) : p := h
theorem eO {p : Prop} (h : p := by first | omega | (show _ < _; simp; omega)) : p := h
theorem k3x (l : List Int) (m : Nat) (hm : List.length l = m) (hb : m ≤ 1000000) (hy : Byt l) : Fun 21 [.c (.d (D.sl (dI .u8 l) m))] (kG []) 0 (kS (D.lit (.int .u32 (qR l)))) (kG []) 0 := by
  refine Fun.mk (n := 31) Try.func21 rfl rfl (Nat.le_of_ble_eq_true rfl) ?_
  intro cx hcx
  refine kK [.no] True [(0, sV .u8 l m)] [] 0 trivial ?_
  refine kX [.no] True [(0, sV .u8 l m), (3, kS (D.lit (.int .u32 4294967295)))] trivial ?_
  refine AW.seq ?_
  refine kX [.no, .no, .no] True [(3, kS (D.lit (.int .u32 4294967295))), (7, sV .u8 l m), (8, uV m), (9, iV 0)] trivial ?_
  refine AW.block ?_
  refine kW 0 hcx (fun (x : {x : Nat × Int // match x with | (k, y) => (k ≤ m) ∧ (rF l k = y) ∧ (0 ≤ y ∧ y ≤ 4294967295)}) => match x with | ⟨(k, y), _⟩ => (⟨[(3, kS (D.lit (.int .u32 y))), (7, sV .u8 l m), (8, uV m), (9, uV k)], [], 0⟩ : ES)) (fun x => match x with | ⟨(k, y), _⟩ => m - k) ⟨((0 : Nat), (4294967295 : Int)), ⟨aB, (u0r _), zo⟩⟩ [] (P := (kN 4294967295) ∧ (k8 (dI .u8 l)) ∧ (kM m) ∧ (kN (m : Int)) ∧ (kN 0)) zk ⟨rfl, rfl, rfl, rfl, rfl⟩ ?_
  rintro ⟨⟨k, y⟩, hinv0⟩
  obtain ⟨hk, hv, hr⟩ : (k ≤ m) ∧ (rF l k = y) ∧ (0 ≤ y ∧ y ≤ 4294967295) := hinv0
  refine uI (l := [(3, kS (D.lit (.int .u32 y))), (7, sV .u8 l m), (8, uV m), (9, uV k)]) (g := []) (nx := 0) rfl rfl rfl ?_
  by_cases hx1 : (((k : Nat) : Int) < ((m : Nat) : Int))
  · refine zr [.b true] [3, 7, 8, 9, 10] [] (((k : Int) < (m : Int))) [(3, kS (D.lit (.int .u32 y))), (7, sV .u8 l m), (8, uV m), (9, uV k), (10, bV true)] [] 0 zo ?_
    refine AW.seq ?_
    refine vD ?_
    refine AW.seq ?_
    refine AW.block ?_
    have hx2 : 0 ≤ (ka0 l k 0) ∧ (ka0 l k 0) ≤ 255 := (kP : Byt l).at _ (by first | omega | (simp only [kR, kQ, pbL_len, ka4, kb2, kb5, kb3, kb1, kb4, kc4] <;> omega))
    refine kK [.n k, .d (D.lit (.int .u8 (ka0 l k 0))), .no] ((kN (k : Int)) ∧ (k < m) ∧ ((List.drop k (dI .u8 l))[0]? = some (D.lit (.int .u8 (ka0 l k 0))))) [(3, kS (D.lit (.int .u32 y))), (5, kS (D.lit (.int .u8 (ka0 l k 0)))), (7, sV .u8 l m), (8, uV m), (9, uV k)] [] 0 ⟨rfl, zo, (qT _ _ _ (by first | omega | (simp only [kR, kQ, pbL_len, qJ, ka4, kb2, kb5, kb3, kb1, kb4, kc4, kd0, kc8, Nat.mul_one] <;> omega) | rfl))⟩ ?_
    have hx3 : 0 ≤ (yZ y (ka0 l k 0)) ∧ (yZ y (ka0 l k 0)) ≤ 4294967295 := yM _ _
    refine kX [.no, .no, .w, .i (yZ y (ka0 l k 0)), .no] ((0 ≤ (ka0 l k 0) ∧ (ka0 l k 0) ≤ 4294967295) ∧ (qK .xor .u32 y (ka0 l k 0) = (yZ y (ka0 l k 0)))) [(3, kS (D.lit (.int .u32 (yZ y (ka0 l k 0))))), (7, sV .u8 l m), (8, uV m), (9, uV k)] ⟨⟨by omega, by omega⟩, (jL _ _)⟩ ?_
    refine kX [.no] True [(3, kS (D.lit (.int .u32 (yZ y (ka0 l k 0))))), (7, sV .u8 l m), (8, uV m), (9, uV k), (17, iV 0)] trivial ?_
    refine AW.block ?_
    refine kW 0 hcx (fun (x : {x : Nat × Int // match x with | (j, z) => (j ≤ 8) ∧ (yU (yZ y (ka0 l k 0)) j = z) ∧ (0 ≤ z ∧ z ≤ 4294967295)}) => match x with | ⟨(j, z), _⟩ => (⟨[(3, kS (D.lit (.int .u32 z))), (7, sV .u8 l m), (8, uV m), (9, uV k), (17, uV j)], [], 0⟩ : ES)) (fun x => match x with | ⟨(j, z), _⟩ => 8 - j) ⟨((0 : Nat), ((yZ y (ka0 l k 0)) : Int)), ⟨aB, (u2a _), (yM _ _)⟩⟩ [] (P := (kN (yZ y (ka0 l k 0))) ∧ (k8 (dI .u8 l)) ∧ (kM m) ∧ (kN (m : Int)) ∧ (kN (k : Int)) ∧ (kN 0)) zk ⟨rfl, rfl, rfl, rfl, rfl, rfl⟩ ?_
    rintro ⟨⟨j, z⟩, hinv1⟩
    obtain ⟨hj, hz, hs⟩ : (j ≤ 8) ∧ (yU (yZ y (ka0 l k 0)) j = z) ∧ (0 ≤ z ∧ z ≤ 4294967295) := hinv1
    refine uI (l := [(3, kS (D.lit (.int .u32 z))), (7, sV .u8 l m), (8, uV m), (9, uV k), (17, uV j)]) (g := []) (nx := 0) rfl rfl rfl ?_
    by_cases hx4 : (((j : Nat) : Int) < 8)
    · refine zr [.b true] [3, 7, 8, 9, 17, 18] [] (((j : Int) < 8)) [(3, kS (D.lit (.int .u32 z))), (7, sV .u8 l m), (8, uV m), (9, uV k), (17, uV j), (18, bV true)] [] 0 zo ?_
      refine AW.seq ?_
      refine vD ?_
      refine AW.seq ?_
      refine AW.block ?_
      refine kK [.no, .i (nJ z), .no] (qK .and .u32 z 1 = (nJ z)) [(3, kS (D.lit (.int .u32 z))), (6, kS (D.lit (.int .u32 (nJ z)))), (7, sV .u8 l m), (8, uV m), (9, uV k), (17, uV j)] [] 0 (k7b _) ?_
      refine kX [.no, .n 1, .no] ((kN 1) ∧ ((1 : Nat) ≤ 32)) [(3, kS (D.lit (.int .u32 (z / 2)))), (6, kS (D.lit (.int .u32 (nJ z)))), (7, sV .u8 l m), (8, uV m), (9, uV k), (17, uV j)] ⟨rfl, zo⟩ ?_
      by_cases hx5 : ((nJ z) = 1)
      · refine zr [.no, .b true] [3, 7, 8, 9, 17, 24] [] (((nJ z) = 1)) [(3, kS (D.lit (.int .u32 (z / 2)))), (7, sV .u8 l m), (8, uV m), (9, uV k), (17, uV j), (24, bV true)] [] 0 zo ?_
        refine zt ?_
        have hx6 : 0 ≤ (yZ (z / 2) 3988292384) ∧ (yZ (z / 2) 3988292384) ≤ 4294967295 := yM _ _
        refine aX [.no, .i (yZ (z / 2) 3988292384), .no] (qK .xor .u32 (z / 2) 3988292384 = (yZ (z / 2) 3988292384)) [(3, kS (D.lit (.int .u32 (yZ (z / 2) 3988292384)))), (7, sV .u8 l m), (8, uV m), (9, uV k), (17, uV j)] [] 0 (jL _ _) ?_
        refine yH [.w, .no] (qL ((j : Int) + 1)) [(3, kS (D.lit (.int .u32 (yZ (z / 2) 3988292384)))), (7, sV .u8 l m), (8, uV m), (9, uV k), (17, iV (↑j + 1))] ⟨by omega, by omega⟩ ?_
        exact qQ ⟨(((j + 1) : Nat), ((yZ (z / 2) 3988292384) : Int)), ⟨aB, (by first | exact aV hz (by assumption) | exact aW hz (by assumption)), (by first | exact yM _ _ | omega)⟩⟩ [] (P := (kN (yZ (z / 2) 3988292384)) ∧ (k8 (dI .u8 l)) ∧ (kM m) ∧ (kN (m : Int)) ∧ (kN (k : Int)) ∧ (q1S j)) zk ⟨rfl, rfl, rfl, rfl, rfl, eP⟩ (show 8 - (j + 1) < 8 - j from eO)
      · refine zr [.no, .b false] [3, 7, 8, 9, 17, 24] [] (¬ ((nJ z) = 1)) [(3, kS (D.lit (.int .u32 (z / 2)))), (7, sV .u8 l m), (8, uV m), (9, uV k), (17, uV j), (24, bV false)] [] 0 zo ?_
        refine yV ?_
        refine aX [.w, .no] (qL ((j : Int) + 1)) [(3, kS (D.lit (.int .u32 (z / 2)))), (7, sV .u8 l m), (8, uV m), (9, uV k), (17, iV (↑j + 1))] [] 0 ⟨by omega, by omega⟩ ?_
        exact qQ ⟨(((j + 1) : Nat), ((z / 2) : Int)), ⟨aB, (by first | exact aV hz (by assumption) | exact aW hz (by assumption)), (by first | exact yM _ _ | omega)⟩⟩ [] (P := (kN (z / 2)) ∧ (k8 (dI .u8 l)) ∧ (kM m) ∧ (kN (m : Int)) ∧ (kN (k : Int)) ∧ (q1S j)) zk ⟨rfl, rfl, rfl, rfl, rfl, eP⟩ (show 8 - (j + 1) < 8 - j from eO)
    · refine zr [.b false] [3, 7, 8, 9, 17, 18] [] (¬ ((j : Int) < 8)) [(3, kS (D.lit (.int .u32 z))), (7, sV .u8 l m), (8, uV m), (9, uV k), (17, uV j), (18, bV false)] [] 0 zo ?_
      refine AW.seq ?_
      refine zf ?_
      refine AW.exit ?_
      refine aX [.w, .no] (qL ((k : Int) + 1)) [(3, kS (D.lit (.int .u32 z))), (7, sV .u8 l m), (8, uV m), (9, iV (↑k + 1))] [] 0 ⟨by omega, by omega⟩ ?_
      exact qQ ⟨(((k + 1) : Nat), (z : Int)), ⟨aB, (xF hv (by first | assumption | (rw [show (8 : Nat) = j by omega]; assumption))), (by assumption)⟩⟩ [] (P := (kN z) ∧ (k8 (dI .u8 l)) ∧ (kM m) ∧ (kN (m : Int)) ∧ (q1S k)) zk ⟨rfl, rfl, rfl, rfl, eP⟩ (show m - (k + 1) < m - k from eO)
  · refine zr [.b false] [3, 7, 8, 9, 10] [] (¬ ((k : Int) < (m : Int))) [(3, kS (D.lit (.int .u32 y))), (7, sV .u8 l m), (8, uV m), (9, uV k), (10, bV false)] [] 0 zo ?_
    refine AW.seq ?_
    refine zf ?_
    refine AW.exit ?_
    have hx7 : 0 ≤ (yZ 4294967295 y) ∧ (yZ 4294967295 y) ≤ 4294967295 := yM _ _
    refine kK [.no, .i (yZ 4294967295 y), .no] (qK .xor .u32 4294967295 y = (yZ 4294967295 y)) [(2, kS (D.lit (.int .u32 (yZ 4294967295 y))))] [] 0 (jL _ _) ?_
    refine AW.ret ?_
    exact kC (.inr rfl) [] (P := (((qR l) : Int) = (yZ 4294967295 y))) zk (by first | omega | exact z6 hm zo hv | exact (z6 hm zo hv).symm)
theorem k9o (l : List Int) (m : Nat) (hm : List.length l = m) (hb : m ≤ 1000000) (hy : Byt l) : Fun 44 [.c (.d (D.sl (dI .u8 l) m))] (kG []) 0 (kS (D.lit (.int .u32 (qR l)))) (kG []) 0 := by
  refine Fun.mk (n := 33) Try.func44 rfl rfl (Nat.le_of_ble_eq_true rfl) ?_
  intro cx hcx
  refine kK [.no] True [(0, sV .u8 l m)] [] 0 trivial ?_
  refine kX [.no] True [(0, sV .u8 l m), (3, kS (D.lit (.int .u32 4294967295)))] trivial ?_
  refine AW.seq ?_
  refine kX [.no, .no, .no] True [(3, kS (D.lit (.int .u32 4294967295))), (8, sV .u8 l m), (9, uV m), (10, iV 0)] trivial ?_
  refine AW.block ?_
  refine kW 0 hcx (fun (x : {x : Nat × Int // match x with | (k, y) => (k ≤ m) ∧ (rF l k = y) ∧ (0 ≤ y ∧ y ≤ 4294967295)}) => match x with | ⟨(k, y), _⟩ => (⟨[(3, kS (D.lit (.int .u32 y))), (8, sV .u8 l m), (9, uV m), (10, uV k)], [], 0⟩ : ES)) (fun x => match x with | ⟨(k, y), _⟩ => m - k) ⟨((0 : Nat), (4294967295 : Int)), ⟨aB, (u0r _), zo⟩⟩ [] (P := (kN 4294967295) ∧ (k8 (dI .u8 l)) ∧ (kM m) ∧ (kN (m : Int)) ∧ (kN 0)) zk ⟨rfl, rfl, rfl, rfl, rfl⟩ ?_
  rintro ⟨⟨k, y⟩, hinv0⟩
  obtain ⟨hk, hv, hr⟩ : (k ≤ m) ∧ (rF l k = y) ∧ (0 ≤ y ∧ y ≤ 4294967295) := hinv0
  refine uI (l := [(3, kS (D.lit (.int .u32 y))), (8, sV .u8 l m), (9, uV m), (10, uV k)]) (g := []) (nx := 0) rfl rfl rfl ?_
  by_cases hx1 : (((k : Nat) : Int) < ((m : Nat) : Int))
  · refine zr [.b true] [3, 8, 9, 10, 11] [] (((k : Int) < (m : Int))) [(3, kS (D.lit (.int .u32 y))), (8, sV .u8 l m), (9, uV m), (10, uV k), (11, bV true)] [] 0 zo ?_
    refine AW.seq ?_
    refine vD ?_
    refine AW.seq ?_
    refine AW.block ?_
    have hx2 : 0 ≤ (ka0 l k 0) ∧ (ka0 l k 0) ≤ 255 := (kP : Byt l).at _ (by first | omega | (simp only [kR, kQ, pbL_len, ka4, kb2, kb5, kb3, kb1, kb4, kc4] <;> omega))
    refine kK [.n k, .d (D.lit (.int .u8 (ka0 l k 0))), .no] ((kN (k : Int)) ∧ (k < m) ∧ ((List.drop k (dI .u8 l))[0]? = some (D.lit (.int .u8 (ka0 l k 0))))) [(3, kS (D.lit (.int .u32 y))), (5, kS (D.lit (.int .u8 (ka0 l k 0)))), (8, sV .u8 l m), (9, uV m), (10, uV k)] [] 0 ⟨rfl, zo, (qT _ _ _ (by first | omega | (simp only [kR, kQ, pbL_len, qJ, ka4, kb2, kb5, kb3, kb1, kb4, kc4, kd0, kc8, Nat.mul_one] <;> omega) | rfl))⟩ ?_
    have hx3 : 0 ≤ (yZ y (ka0 l k 0)) ∧ (yZ y (ka0 l k 0)) ≤ 4294967295 := yM _ _
    refine kX [.no, .no, .w, .i (yZ y (ka0 l k 0)), .no] ((0 ≤ (ka0 l k 0) ∧ (ka0 l k 0) ≤ 4294967295) ∧ (qK .xor .u32 y (ka0 l k 0) = (yZ y (ka0 l k 0)))) [(3, kS (D.lit (.int .u32 (yZ y (ka0 l k 0))))), (8, sV .u8 l m), (9, uV m), (10, uV k)] ⟨⟨by omega, by omega⟩, (jL _ _)⟩ ?_
    refine kX [.no] True [(3, kS (D.lit (.int .u32 (yZ y (ka0 l k 0))))), (6, iV 0), (8, sV .u8 l m), (9, uV m), (10, uV k)] trivial ?_
    refine AW.block ?_
    refine kW 0 hcx (fun (x : {x : Nat × Int // match x with | (j, z) => (j ≤ 8) ∧ (yU (yZ y (ka0 l k 0)) j = z) ∧ (0 ≤ z ∧ z ≤ 4294967295)}) => match x with | ⟨(j, z), _⟩ => (⟨[(3, kS (D.lit (.int .u32 z))), (6, uV j), (8, sV .u8 l m), (9, uV m), (10, uV k)], [], 0⟩ : ES)) (fun x => match x with | ⟨(j, z), _⟩ => 8 - j) ⟨((0 : Nat), ((yZ y (ka0 l k 0)) : Int)), ⟨aB, (u2a _), (yM _ _)⟩⟩ [] (P := (kN (yZ y (ka0 l k 0))) ∧ (kN 0) ∧ (k8 (dI .u8 l)) ∧ (kM m) ∧ (kN (m : Int)) ∧ (kN (k : Int))) zk ⟨rfl, rfl, rfl, rfl, rfl, rfl⟩ ?_
    rintro ⟨⟨j, z⟩, hinv1⟩
    obtain ⟨hj, hz, hs⟩ : (j ≤ 8) ∧ (yU (yZ y (ka0 l k 0)) j = z) ∧ (0 ≤ z ∧ z ≤ 4294967295) := hinv1
    refine uI (l := [(3, kS (D.lit (.int .u32 z))), (6, uV j), (8, sV .u8 l m), (9, uV m), (10, uV k)]) (g := []) (nx := 0) rfl rfl rfl ?_
    refine AW.seq ?_
    by_cases hx4 : (((j : Nat) : Int) < 8)
    · refine zr [.no, .b true] [3, 6, 8, 9, 10, 19] [] (((j : Int) < 8)) [(3, kS (D.lit (.int .u32 z))), (6, uV j), (8, sV .u8 l m), (9, uV m), (10, uV k), (19, bV true)] [] 0 zo ?_
      refine vD ?_
      refine AW.seq ?_
      refine AW.block ?_
      refine kK [.no, .i (nJ z), .no] (qK .and .u32 z 1 = (nJ z)) [(3, kS (D.lit (.int .u32 z))), (6, uV j), (7, kS (D.lit (.int .u32 (nJ z)))), (8, sV .u8 l m), (9, uV m), (10, uV k)] [] 0 (k7b _) ?_
      refine kX [.no, .n 1, .no] ((kN 1) ∧ ((1 : Nat) ≤ 32)) [(3, kS (D.lit (.int .u32 (z / 2)))), (6, uV j), (7, kS (D.lit (.int .u32 (nJ z)))), (8, sV .u8 l m), (9, uV m), (10, uV k)] ⟨rfl, zo⟩ ?_
      by_cases hx5 : ((nJ z) = 1)
      · refine zr [.no, .b true] [3, 6, 8, 9, 10, 27] [] (((nJ z) = 1)) [(3, kS (D.lit (.int .u32 (z / 2)))), (6, uV j), (8, sV .u8 l m), (9, uV m), (10, uV k), (27, bV true)] [] 0 zo ?_
        refine zt ?_
        have hx6 : 0 ≤ (yZ (z / 2) 3988292384) ∧ (yZ (z / 2) 3988292384) ≤ 4294967295 := yM _ _
        refine aX [.no, .i (yZ (z / 2) 3988292384), .no] (qK .xor .u32 (z / 2) 3988292384 = (yZ (z / 2) 3988292384)) [(3, kS (D.lit (.int .u32 (yZ (z / 2) 3988292384)))), (6, uV j), (8, sV .u8 l m), (9, uV m), (10, uV k)] [] 0 (jL _ _) ?_
        refine yH [.no, .w, .no] (qL ((j : Int) + 1)) [(3, kS (D.lit (.int .u32 (yZ (z / 2) 3988292384)))), (6, iV (↑j + 1)), (8, sV .u8 l m), (9, uV m), (10, uV k)] ⟨by omega, by omega⟩ ?_
        exact qQ ⟨(((j + 1) : Nat), ((yZ (z / 2) 3988292384) : Int)), ⟨aB, (by first | exact aV hz (by assumption) | exact aW hz (by assumption)), (by first | exact yM _ _ | omega)⟩⟩ [] (P := (kN (yZ (z / 2) 3988292384)) ∧ (q1S j) ∧ (k8 (dI .u8 l)) ∧ (kM m) ∧ (kN (m : Int)) ∧ (kN (k : Int))) zk ⟨rfl, eP, rfl, rfl, rfl, rfl⟩ (show 8 - (j + 1) < 8 - j from eO)
      · refine zr [.no, .b false] [3, 6, 8, 9, 10, 27] [] (¬ ((nJ z) = 1)) [(3, kS (D.lit (.int .u32 (z / 2)))), (6, uV j), (8, sV .u8 l m), (9, uV m), (10, uV k), (27, bV false)] [] 0 zo ?_
        refine yV ?_
        refine aX [.no, .w, .no] (qL ((j : Int) + 1)) [(3, kS (D.lit (.int .u32 (z / 2)))), (6, iV (↑j + 1)), (8, sV .u8 l m), (9, uV m), (10, uV k)] [] 0 ⟨by omega, by omega⟩ ?_
        exact qQ ⟨(((j + 1) : Nat), ((z / 2) : Int)), ⟨aB, (by first | exact aV hz (by assumption) | exact aW hz (by assumption)), (by first | exact yM _ _ | omega)⟩⟩ [] (P := (kN (z / 2)) ∧ (q1S j) ∧ (k8 (dI .u8 l)) ∧ (kM m) ∧ (kN (m : Int)) ∧ (kN (k : Int))) zk ⟨rfl, eP, rfl, rfl, rfl, rfl⟩ (show 8 - (j + 1) < 8 - j from eO)
    · refine zr [.no, .b false] [3, 6, 8, 9, 10, 19] [] (¬ ((j : Int) < 8)) [(3, kS (D.lit (.int .u32 z))), (6, uV j), (8, sV .u8 l m), (9, uV m), (10, uV k), (19, bV false)] [] 0 zo ?_
      refine zf ?_
      refine AW.exit ?_
      refine aX [.w, .no] (qL ((k : Int) + 1)) [(3, kS (D.lit (.int .u32 z))), (8, sV .u8 l m), (9, uV m), (10, iV (↑k + 1))] [] 0 ⟨by omega, by omega⟩ ?_
      exact qQ ⟨(((k + 1) : Nat), (z : Int)), ⟨aB, (xF hv (by first | assumption | (rw [show (8 : Nat) = j by omega]; assumption))), (by assumption)⟩⟩ [] (P := (kN z) ∧ (k8 (dI .u8 l)) ∧ (kM m) ∧ (kN (m : Int)) ∧ (q1S k)) zk ⟨rfl, rfl, rfl, rfl, eP⟩ (show m - (k + 1) < m - k from eO)
  · refine zr [.b false] [3, 8, 9, 10, 11] [] (¬ ((k : Int) < (m : Int))) [(3, kS (D.lit (.int .u32 y))), (8, sV .u8 l m), (9, uV m), (10, uV k), (11, bV false)] [] 0 zo ?_
    refine AW.seq ?_
    refine zf ?_
    refine AW.exit ?_
    have hx7 : 0 ≤ (yZ 4294967295 y) ∧ (yZ 4294967295 y) ≤ 4294967295 := yM _ _
    refine kK [.no, .i (yZ 4294967295 y), .no] (qK .xor .u32 4294967295 y = (yZ 4294967295 y)) [(2, kS (D.lit (.int .u32 (yZ 4294967295 y))))] [] 0 (jL _ _) ?_
    refine AW.ret ?_
    exact kC (.inr rfl) [] (P := (((qR l) : Int) = (yZ 4294967295 y))) zk (by first | omega | exact z6 hm zo hv | exact (z6 hm zo hv).symm)
end Go.Proofs.Ytalbpleglapihaa
