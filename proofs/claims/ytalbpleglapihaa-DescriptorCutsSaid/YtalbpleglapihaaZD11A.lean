/- Sums of bytes. No statement is proved here. -/
import Derived.Test.YtalbpleglapihaaZLWi
import Derived.Test.YtalbpleglapihaaZL10M
import Derived.Test.YtalbpleglapihaaZL10G
import Derived.Test.YtalbpleglapihaaZW10
namespace Go.Proofs.Ytalbpleglapihaa
open Go.ChangeShapes Go.WideShapes Go.ChangeAt Go.RowKit
set_option linter.unusedVariables false
set_option linter.unusedSimpArgs false
/-! chapter 11: sums of bytes -/
set_option maxHeartbeats 4000000
set_option maxRecDepth 100000
def yX (a b : Int) : Int := qN .xor .u32 a b
def m9 (a : Int) : Int := qN .and .u32 a 1
theorem jD (a b : Int) : qN .xor .u32 a b = yX a b := rfl
theorem k72 (a : Int) : qN .and .u32 a 1 = m9 a := rfl
theorem k7d (a b : Int) : yX a b = ((BitVec.ofInt 32 a ^^^ BitVec.ofInt 32 b).toNat : Int) := by
  show IntKind.u32.wrap _ = _
  exact v3 (by simp only [rC]; have := (BitVec.ofInt 32 a ^^^ BitVec.ofInt 32 b).isLt; exact ⟨by omega, by show (((BitVec.ofInt 32 a ^^^ BitVec.ofInt 32 b).toNat : Nat) : Int) ≤ 4294967295; omega⟩)
theorem yK (a b : Int) : 0 ≤ yX a b ∧ yX a b ≤ 4294967295 := by
  rw [k7d]; have := (BitVec.ofInt 32 a ^^^ BitVec.ofInt 32 b).isLt; omega
def yS (r : Int) : Nat → Int
  | 0 => r
  | k + 1 => if m9 (yS r k) = 1 then yX (yS r k / 2) 3988292384 else yS r k / 2
theorem aT {r z : Int} {k : Nat} (h : yS r k = z) (h1 : m9 z = 1) : yS r (k + 1) = yX (z / 2) 3988292384 := by subst h; exact if_pos h1
theorem aU {r z : Int} {k : Nat} (h : yS r k = z) (h1 : ¬ m9 z = 1) : yS r (k + 1) = z / 2 := by subst h; exact if_neg h1
def rB (l : List Int) : Nat → Int
  | 0 => 4294967295
  | k + 1 => yS (yX (rB l k) (List.getD l k 0)) 8
theorem w5 {l : List Int} {y z : Int} {k : Nat} (h : rB l k = y) (h1 : yS (yX y (List.getD l k 0)) 8 = z) : rB l (k + 1) = z := by subst h; exact h1
theorem u0f (l : List Int) : rB l 0 = 4294967295 := rfl
theorem u23 (x : Int) : yS x 0 = x := rfl
def qG (l : List Int) : Int := yX 4294967295 (rB l l.length)
theorem fM (l : List Int) : 0 ≤ qG l ∧ qG l ≤ 4294967295 := yK _ _
theorem zT {l : List Int} {y : Int} {k m : Nat} (hm : l.length = m) (hk : k = m) (h : rB l k = y) : yX 4294967295 y = qG l := by subst hk; subst hm; subst h; rfl
attribute [local irreducible] yS rB qG yX m9
theorem aA {p : Prop} (h : p := by first | omega | assumption | simp) : p := h
theorem eG {p : Prop} (h : p := by first | rfl | omega | assumption | (simp; done) | (simp; omega)) : p := h
theorem eF {p : Prop} (h : p := by first | omega | (show _ < _; simp; omega)) : p := h
theorem k3l (l : List Int) (m : Nat) (hm : List.length l = m) (hb : m ≤ 1000000) (hy : Byt l) : Fun 21 [.c (.d (D.sl (dI .u8 l) m))] (kG []) 0 (kP (D.lit (.int .u32 (qG l)))) (kG []) 0 := by
  refine Fun.mk (n := 31) Try.func21 rfl rfl (Nat.le_of_ble_eq_true rfl) ?_
  intro cx hcx
  refine kK [.no] True [(0, sV .u8 l m)] [] 0 trivial ?_
  refine kX [.no] True [(0, sV .u8 l m), (3, kP (D.lit (.int .u32 4294967295)))] trivial ?_
  refine AW.seq ?_
  refine kX [.no, .no, .no] True [(3, kP (D.lit (.int .u32 4294967295))), (7, sV .u8 l m), (8, uV m), (9, iV 0)] trivial ?_
  refine AW.block ?_
  refine kW 0 hcx (fun (x : {x : Nat × Int // match x with | (k, y) => (k ≤ m) ∧ (rB l k = y) ∧ (0 ≤ y ∧ y ≤ 4294967295)}) => match x with | ⟨(k, y), _⟩ => (⟨[(3, kP (D.lit (.int .u32 y))), (7, sV .u8 l m), (8, uV m), (9, uV k)], [], 0⟩ : ES)) (fun x => match x with | ⟨(k, y), _⟩ => m - k) ⟨((0 : Nat), (4294967295 : Int)), ⟨aA, (u0f _), zo⟩⟩ [] (P := (kN 4294967295) ∧ (k8 (dI .u8 l)) ∧ (kM m) ∧ (kN (m : Int)) ∧ (kN 0)) zk ⟨rfl, rfl, rfl, rfl, rfl⟩ ?_
  rintro ⟨⟨k, y⟩, hinv0⟩
  obtain ⟨hk, hv, hr⟩ : (k ≤ m) ∧ (rB l k = y) ∧ (0 ≤ y ∧ y ≤ 4294967295) := hinv0
  refine uI (l := [(3, kP (D.lit (.int .u32 y))), (7, sV .u8 l m), (8, uV m), (9, uV k)]) (g := []) (nx := 0) rfl rfl rfl ?_
  by_cases hx1 : (((k : Nat) : Int) < ((m : Nat) : Int))
  · refine zr [.b true] [3, 7, 8, 9, 10] [] (((k : Int) < (m : Int))) [(3, kP (D.lit (.int .u32 y))), (7, sV .u8 l m), (8, uV m), (9, uV k), (10, bV true)] [] 0 zo ?_
    refine AW.seq ?_
    refine vC ?_
    refine AW.seq ?_
    refine AW.block ?_
    have hx2 : 0 ≤ (List.getD l k 0) ∧ (List.getD l k 0) ≤ 255 := (kS : Byt l).at _ (by first | omega | (simp only [kR, kQ, pbL_len, List.length_append, List.length_cons, List.length_nil, List.length_take, List.length_drop, List.length_replicate, List.length_set] <;> omega))
    refine kK [.n k, .d (D.lit (.int .u8 (List.getD l k 0))), .no] ((kN (k : Int)) ∧ (k < m) ∧ ((List.drop k (dI .u8 l))[0]? = some (D.lit (.int .u8 (List.getD l k 0))))) [(3, kP (D.lit (.int .u32 y))), (5, kP (D.lit (.int .u8 (List.getD l k 0)))), (7, sV .u8 l m), (8, uV m), (9, uV k)] [] 0 ⟨rfl, zo, (qU _ _ _ (by first | omega | (simp only [kR, kQ, pbL_len, qL, List.length_append, List.length_cons, List.length_nil, List.length_take, List.length_drop, List.length_replicate, List.length_set, List.length_map, List.length_reverse, Nat.mul_one] <;> omega) | rfl))⟩ ?_
    have hx3 : 0 ≤ (yX y (List.getD l k 0)) ∧ (yX y (List.getD l k 0)) ≤ 4294967295 := yK _ _
    refine kX [.no, .no, .w, .i (yX y (List.getD l k 0)), .no] ((0 ≤ (List.getD l k 0) ∧ (List.getD l k 0) ≤ 4294967295) ∧ (qN .xor .u32 y (List.getD l k 0) = (yX y (List.getD l k 0)))) [(3, kP (D.lit (.int .u32 (yX y (List.getD l k 0))))), (7, sV .u8 l m), (8, uV m), (9, uV k)] ⟨⟨by omega, by omega⟩, (jD _ _)⟩ ?_
    refine kX [.no] True [(3, kP (D.lit (.int .u32 (yX y (List.getD l k 0))))), (7, sV .u8 l m), (8, uV m), (9, uV k), (17, iV 0)] trivial ?_
    refine AW.block ?_
    refine kW 0 hcx (fun (x : {x : Nat × Int // match x with | (j, z) => (j ≤ 8) ∧ (yS (yX y (List.getD l k 0)) j = z) ∧ (0 ≤ z ∧ z ≤ 4294967295)}) => match x with | ⟨(j, z), _⟩ => (⟨[(3, kP (D.lit (.int .u32 z))), (7, sV .u8 l m), (8, uV m), (9, uV k), (17, uV j)], [], 0⟩ : ES)) (fun x => match x with | ⟨(j, z), _⟩ => 8 - j) ⟨((0 : Nat), ((yX y (List.getD l k 0)) : Int)), ⟨aA, (u23 _), (yK _ _)⟩⟩ [] (P := (kN (yX y (List.getD l k 0))) ∧ (k8 (dI .u8 l)) ∧ (kM m) ∧ (kN (m : Int)) ∧ (kN (k : Int)) ∧ (kN 0)) zk ⟨rfl, rfl, rfl, rfl, rfl, rfl⟩ ?_
    rintro ⟨⟨j, z⟩, hinv1⟩
    obtain ⟨hj, hz, hs⟩ : (j ≤ 8) ∧ (yS (yX y (List.getD l k 0)) j = z) ∧ (0 ≤ z ∧ z ≤ 4294967295) := hinv1
    refine uI (l := [(3, kP (D.lit (.int .u32 z))), (7, sV .u8 l m), (8, uV m), (9, uV k), (17, uV j)]) (g := []) (nx := 0) rfl rfl rfl ?_
    by_cases hx4 : (((j : Nat) : Int) < 8)
    · refine zr [.b true] [3, 7, 8, 9, 17, 18] [] (((j : Int) < 8)) [(3, kP (D.lit (.int .u32 z))), (7, sV .u8 l m), (8, uV m), (9, uV k), (17, uV j), (18, bV true)] [] 0 zo ?_
      refine AW.seq ?_
      refine vC ?_
      refine AW.seq ?_
      refine AW.block ?_
      refine kK [.no, .i (m9 z), .no] (qN .and .u32 z 1 = (m9 z)) [(3, kP (D.lit (.int .u32 z))), (6, kP (D.lit (.int .u32 (m9 z)))), (7, sV .u8 l m), (8, uV m), (9, uV k), (17, uV j)] [] 0 (k72 _) ?_
      refine kX [.no, .n 1, .no] ((kN 1) ∧ ((1 : Nat) ≤ 32)) [(3, kP (D.lit (.int .u32 (z / 2)))), (6, kP (D.lit (.int .u32 (m9 z)))), (7, sV .u8 l m), (8, uV m), (9, uV k), (17, uV j)] ⟨rfl, zo⟩ ?_
      by_cases hx5 : ((m9 z) = 1)
      · refine zr [.no, .b true] [3, 7, 8, 9, 17, 24] [] (((m9 z) = 1)) [(3, kP (D.lit (.int .u32 (z / 2)))), (7, sV .u8 l m), (8, uV m), (9, uV k), (17, uV j), (24, bV true)] [] 0 zo ?_
        refine zt ?_
        have hx6 : 0 ≤ (yX (z / 2) 3988292384) ∧ (yX (z / 2) 3988292384) ≤ 4294967295 := yK _ _
        refine aV [.no, .i (yX (z / 2) 3988292384), .no] (qN .xor .u32 (z / 2) 3988292384 = (yX (z / 2) 3988292384)) [(3, kP (D.lit (.int .u32 (yX (z / 2) 3988292384)))), (7, sV .u8 l m), (8, uV m), (9, uV k), (17, uV j)] [] 0 (jD _ _) ?_
        refine yG [.w, .no] (qM ((j : Int) + 1)) [(3, kP (D.lit (.int .u32 (yX (z / 2) 3988292384)))), (7, sV .u8 l m), (8, uV m), (9, uV k), (17, iV (↑j + 1))] ⟨by omega, by omega⟩ ?_
        exact qR ⟨(((j + 1) : Nat), ((yX (z / 2) 3988292384) : Int)), ⟨aA, (by first | exact aT hz (by assumption) | exact aU hz (by assumption)), (by first | exact yK _ _ | omega)⟩⟩ [] (P := (kN (yX (z / 2) 3988292384)) ∧ (k8 (dI .u8 l)) ∧ (kM m) ∧ (kN (m : Int)) ∧ (kN (k : Int)) ∧ (q1S j)) zk ⟨rfl, rfl, rfl, rfl, rfl, eG⟩ (show 8 - (j + 1) < 8 - j from eF)
      · refine zr [.no, .b false] [3, 7, 8, 9, 17, 24] [] (¬ ((m9 z) = 1)) [(3, kP (D.lit (.int .u32 (z / 2)))), (7, sV .u8 l m), (8, uV m), (9, uV k), (17, uV j), (24, bV false)] [] 0 zo ?_
        refine yW ?_
        refine aV [.w, .no] (qM ((j : Int) + 1)) [(3, kP (D.lit (.int .u32 (z / 2)))), (7, sV .u8 l m), (8, uV m), (9, uV k), (17, iV (↑j + 1))] [] 0 ⟨by omega, by omega⟩ ?_
        exact qR ⟨(((j + 1) : Nat), ((z / 2) : Int)), ⟨aA, (by first | exact aT hz (by assumption) | exact aU hz (by assumption)), (by first | exact yK _ _ | omega)⟩⟩ [] (P := (kN (z / 2)) ∧ (k8 (dI .u8 l)) ∧ (kM m) ∧ (kN (m : Int)) ∧ (kN (k : Int)) ∧ (q1S j)) zk ⟨rfl, rfl, rfl, rfl, rfl, eG⟩ (show 8 - (j + 1) < 8 - j from eF)
    · refine zr [.b false] [3, 7, 8, 9, 17, 18] [] (¬ ((j : Int) < 8)) [(3, kP (D.lit (.int .u32 z))), (7, sV .u8 l m), (8, uV m), (9, uV k), (17, uV j), (18, bV false)] [] 0 zo ?_
      refine AW.seq ?_
      refine zf ?_
      refine AW.exit ?_
      refine aV [.w, .no] (qM ((k : Int) + 1)) [(3, kP (D.lit (.int .u32 z))), (7, sV .u8 l m), (8, uV m), (9, iV (↑k + 1))] [] 0 ⟨by omega, by omega⟩ ?_
      exact qR ⟨(((k + 1) : Nat), (z : Int)), ⟨aA, (w5 hv (by first | assumption | (rw [show (8 : Nat) = j by omega]; assumption))), (by assumption)⟩⟩ [] (P := (kN z) ∧ (k8 (dI .u8 l)) ∧ (kM m) ∧ (kN (m : Int)) ∧ (q1S k)) zk ⟨rfl, rfl, rfl, rfl, eG⟩ (show m - (k + 1) < m - k from eF)
  · refine zr [.b false] [3, 7, 8, 9, 10] [] (¬ ((k : Int) < (m : Int))) [(3, kP (D.lit (.int .u32 y))), (7, sV .u8 l m), (8, uV m), (9, uV k), (10, bV false)] [] 0 zo ?_
    refine AW.seq ?_
    refine zf ?_
    refine AW.exit ?_
    have hx7 : 0 ≤ (yX 4294967295 y) ∧ (yX 4294967295 y) ≤ 4294967295 := yK _ _
    refine kK [.no, .i (yX 4294967295 y), .no] (qN .xor .u32 4294967295 y = (yX 4294967295 y)) [(2, kP (D.lit (.int .u32 (yX 4294967295 y))))] [] 0 (jD _ _) ?_
    refine AW.ret ?_
    exact kC (.inr rfl) [] (P := (((qG l) : Int) = (yX 4294967295 y))) zk (by first | omega | exact zT hm zo hv | exact (zT hm zo hv).symm)
theorem k9e (l : List Int) (m : Nat) (hm : List.length l = m) (hb : m ≤ 1000000) (hy : Byt l) : Fun 44 [.c (.d (D.sl (dI .u8 l) m))] (kG []) 0 (kP (D.lit (.int .u32 (qG l)))) (kG []) 0 := by
  refine Fun.mk (n := 33) Try.func44 rfl rfl (Nat.le_of_ble_eq_true rfl) ?_
  intro cx hcx
  refine kK [.no] True [(0, sV .u8 l m)] [] 0 trivial ?_
  refine kX [.no] True [(0, sV .u8 l m), (3, kP (D.lit (.int .u32 4294967295)))] trivial ?_
  refine AW.seq ?_
  refine kX [.no, .no, .no] True [(3, kP (D.lit (.int .u32 4294967295))), (8, sV .u8 l m), (9, uV m), (10, iV 0)] trivial ?_
  refine AW.block ?_
  refine kW 0 hcx (fun (x : {x : Nat × Int // match x with | (k, y) => (k ≤ m) ∧ (rB l k = y) ∧ (0 ≤ y ∧ y ≤ 4294967295)}) => match x with | ⟨(k, y), _⟩ => (⟨[(3, kP (D.lit (.int .u32 y))), (8, sV .u8 l m), (9, uV m), (10, uV k)], [], 0⟩ : ES)) (fun x => match x with | ⟨(k, y), _⟩ => m - k) ⟨((0 : Nat), (4294967295 : Int)), ⟨aA, (u0f _), zo⟩⟩ [] (P := (kN 4294967295) ∧ (k8 (dI .u8 l)) ∧ (kM m) ∧ (kN (m : Int)) ∧ (kN 0)) zk ⟨rfl, rfl, rfl, rfl, rfl⟩ ?_
  rintro ⟨⟨k, y⟩, hinv0⟩
  obtain ⟨hk, hv, hr⟩ : (k ≤ m) ∧ (rB l k = y) ∧ (0 ≤ y ∧ y ≤ 4294967295) := hinv0
  refine uI (l := [(3, kP (D.lit (.int .u32 y))), (8, sV .u8 l m), (9, uV m), (10, uV k)]) (g := []) (nx := 0) rfl rfl rfl ?_
  by_cases hx1 : (((k : Nat) : Int) < ((m : Nat) : Int))
  · refine zr [.b true] [3, 8, 9, 10, 11] [] (((k : Int) < (m : Int))) [(3, kP (D.lit (.int .u32 y))), (8, sV .u8 l m), (9, uV m), (10, uV k), (11, bV true)] [] 0 zo ?_
    refine AW.seq ?_
    refine vC ?_
    refine AW.seq ?_
    refine AW.block ?_
    have hx2 : 0 ≤ (List.getD l k 0) ∧ (List.getD l k 0) ≤ 255 := (kS : Byt l).at _ (by first | omega | (simp only [kR, kQ, pbL_len, List.length_append, List.length_cons, List.length_nil, List.length_take, List.length_drop, List.length_replicate, List.length_set] <;> omega))
    refine kK [.n k, .d (D.lit (.int .u8 (List.getD l k 0))), .no] ((kN (k : Int)) ∧ (k < m) ∧ ((List.drop k (dI .u8 l))[0]? = some (D.lit (.int .u8 (List.getD l k 0))))) [(3, kP (D.lit (.int .u32 y))), (5, kP (D.lit (.int .u8 (List.getD l k 0)))), (8, sV .u8 l m), (9, uV m), (10, uV k)] [] 0 ⟨rfl, zo, (qU _ _ _ (by first | omega | (simp only [kR, kQ, pbL_len, qL, List.length_append, List.length_cons, List.length_nil, List.length_take, List.length_drop, List.length_replicate, List.length_set, List.length_map, List.length_reverse, Nat.mul_one] <;> omega) | rfl))⟩ ?_
    have hx3 : 0 ≤ (yX y (List.getD l k 0)) ∧ (yX y (List.getD l k 0)) ≤ 4294967295 := yK _ _
    refine kX [.no, .no, .w, .i (yX y (List.getD l k 0)), .no] ((0 ≤ (List.getD l k 0) ∧ (List.getD l k 0) ≤ 4294967295) ∧ (qN .xor .u32 y (List.getD l k 0) = (yX y (List.getD l k 0)))) [(3, kP (D.lit (.int .u32 (yX y (List.getD l k 0))))), (8, sV .u8 l m), (9, uV m), (10, uV k)] ⟨⟨by omega, by omega⟩, (jD _ _)⟩ ?_
    refine kX [.no] True [(3, kP (D.lit (.int .u32 (yX y (List.getD l k 0))))), (6, iV 0), (8, sV .u8 l m), (9, uV m), (10, uV k)] trivial ?_
    refine AW.block ?_
    refine kW 0 hcx (fun (x : {x : Nat × Int // match x with | (j, z) => (j ≤ 8) ∧ (yS (yX y (List.getD l k 0)) j = z) ∧ (0 ≤ z ∧ z ≤ 4294967295)}) => match x with | ⟨(j, z), _⟩ => (⟨[(3, kP (D.lit (.int .u32 z))), (6, uV j), (8, sV .u8 l m), (9, uV m), (10, uV k)], [], 0⟩ : ES)) (fun x => match x with | ⟨(j, z), _⟩ => 8 - j) ⟨((0 : Nat), ((yX y (List.getD l k 0)) : Int)), ⟨aA, (u23 _), (yK _ _)⟩⟩ [] (P := (kN (yX y (List.getD l k 0))) ∧ (kN 0) ∧ (k8 (dI .u8 l)) ∧ (kM m) ∧ (kN (m : Int)) ∧ (kN (k : Int))) zk ⟨rfl, rfl, rfl, rfl, rfl, rfl⟩ ?_
    rintro ⟨⟨j, z⟩, hinv1⟩
    obtain ⟨hj, hz, hs⟩ : (j ≤ 8) ∧ (yS (yX y (List.getD l k 0)) j = z) ∧ (0 ≤ z ∧ z ≤ 4294967295) := hinv1
    refine uI (l := [(3, kP (D.lit (.int .u32 z))), (6, uV j), (8, sV .u8 l m), (9, uV m), (10, uV k)]) (g := []) (nx := 0) rfl rfl rfl ?_
    refine AW.seq ?_
    by_cases hx4 : (((j : Nat) : Int) < 8)
    · refine zr [.no, .b true] [3, 6, 8, 9, 10, 19] [] (((j : Int) < 8)) [(3, kP (D.lit (.int .u32 z))), (6, uV j), (8, sV .u8 l m), (9, uV m), (10, uV k), (19, bV true)] [] 0 zo ?_
      refine vC ?_
      refine AW.seq ?_
      refine AW.block ?_
      refine kK [.no, .i (m9 z), .no] (qN .and .u32 z 1 = (m9 z)) [(3, kP (D.lit (.int .u32 z))), (6, uV j), (7, kP (D.lit (.int .u32 (m9 z)))), (8, sV .u8 l m), (9, uV m), (10, uV k)] [] 0 (k72 _) ?_
      refine kX [.no, .n 1, .no] ((kN 1) ∧ ((1 : Nat) ≤ 32)) [(3, kP (D.lit (.int .u32 (z / 2)))), (6, uV j), (7, kP (D.lit (.int .u32 (m9 z)))), (8, sV .u8 l m), (9, uV m), (10, uV k)] ⟨rfl, zo⟩ ?_
      by_cases hx5 : ((m9 z) = 1)
      · refine zr [.no, .b true] [3, 6, 8, 9, 10, 27] [] (((m9 z) = 1)) [(3, kP (D.lit (.int .u32 (z / 2)))), (6, uV j), (8, sV .u8 l m), (9, uV m), (10, uV k), (27, bV true)] [] 0 zo ?_
        refine zt ?_
        have hx6 : 0 ≤ (yX (z / 2) 3988292384) ∧ (yX (z / 2) 3988292384) ≤ 4294967295 := yK _ _
        refine aV [.no, .i (yX (z / 2) 3988292384), .no] (qN .xor .u32 (z / 2) 3988292384 = (yX (z / 2) 3988292384)) [(3, kP (D.lit (.int .u32 (yX (z / 2) 3988292384)))), (6, uV j), (8, sV .u8 l m), (9, uV m), (10, uV k)] [] 0 (jD _ _) ?_
        refine yG [.no, .w, .no] (qM ((j : Int) + 1)) [(3, kP (D.lit (.int .u32 (yX (z / 2) 3988292384)))), (6, iV (↑j + 1)), (8, sV .u8 l m), (9, uV m), (10, uV k)] ⟨by omega, by omega⟩ ?_
        exact qR ⟨(((j + 1) : Nat), ((yX (z / 2) 3988292384) : Int)), ⟨aA, (by first | exact aT hz (by assumption) | exact aU hz (by assumption)), (by first | exact yK _ _ | omega)⟩⟩ [] (P := (kN (yX (z / 2) 3988292384)) ∧ (q1S j) ∧ (k8 (dI .u8 l)) ∧ (kM m) ∧ (kN (m : Int)) ∧ (kN (k : Int))) zk ⟨rfl, eG, rfl, rfl, rfl, rfl⟩ (show 8 - (j + 1) < 8 - j from eF)
      · refine zr [.no, .b false] [3, 6, 8, 9, 10, 27] [] (¬ ((m9 z) = 1)) [(3, kP (D.lit (.int .u32 (z / 2)))), (6, uV j), (8, sV .u8 l m), (9, uV m), (10, uV k), (27, bV false)] [] 0 zo ?_
        refine yW ?_
        refine aV [.no, .w, .no] (qM ((j : Int) + 1)) [(3, kP (D.lit (.int .u32 (z / 2)))), (6, iV (↑j + 1)), (8, sV .u8 l m), (9, uV m), (10, uV k)] [] 0 ⟨by omega, by omega⟩ ?_
        exact qR ⟨(((j + 1) : Nat), ((z / 2) : Int)), ⟨aA, (by first | exact aT hz (by assumption) | exact aU hz (by assumption)), (by first | exact yK _ _ | omega)⟩⟩ [] (P := (kN (z / 2)) ∧ (q1S j) ∧ (k8 (dI .u8 l)) ∧ (kM m) ∧ (kN (m : Int)) ∧ (kN (k : Int))) zk ⟨rfl, eG, rfl, rfl, rfl, rfl⟩ (show 8 - (j + 1) < 8 - j from eF)
    · refine zr [.no, .b false] [3, 6, 8, 9, 10, 19] [] (¬ ((j : Int) < 8)) [(3, kP (D.lit (.int .u32 z))), (6, uV j), (8, sV .u8 l m), (9, uV m), (10, uV k), (19, bV false)] [] 0 zo ?_
      refine zf ?_
      refine AW.exit ?_
      refine aV [.w, .no] (qM ((k : Int) + 1)) [(3, kP (D.lit (.int .u32 z))), (8, sV .u8 l m), (9, uV m), (10, iV (↑k + 1))] [] 0 ⟨by omega, by omega⟩ ?_
      exact qR ⟨(((k + 1) : Nat), (z : Int)), ⟨aA, (w5 hv (by first | assumption | (rw [show (8 : Nat) = j by omega]; assumption))), (by assumption)⟩⟩ [] (P := (kN z) ∧ (k8 (dI .u8 l)) ∧ (kM m) ∧ (kN (m : Int)) ∧ (q1S k)) zk ⟨rfl, rfl, rfl, rfl, eG⟩ (show m - (k + 1) < m - k from eF)
  · refine zr [.b false] [3, 8, 9, 10, 11] [] (¬ ((k : Int) < (m : Int))) [(3, kP (D.lit (.int .u32 y))), (8, sV .u8 l m), (9, uV m), (10, uV k), (11, bV false)] [] 0 zo ?_
    refine AW.seq ?_
    refine zf ?_
    refine AW.exit ?_
    have hx7 : 0 ≤ (yX 4294967295 y) ∧ (yX 4294967295 y) ≤ 4294967295 := yK _ _
    refine kK [.no, .i (yX 4294967295 y), .no] (qN .xor .u32 4294967295 y = (yX 4294967295 y)) [(2, kP (D.lit (.int .u32 (yX 4294967295 y))))] [] 0 (jD _ _) ?_
    refine AW.ret ?_
    exact kC (.inr rfl) [] (P := (((qG l) : Int) = (yX 4294967295 y))) zk (by first | omega | exact zT hm zo hv | exact (zT hm zo hv).symm)
end Go.Proofs.Ytalbpleglapihaa
