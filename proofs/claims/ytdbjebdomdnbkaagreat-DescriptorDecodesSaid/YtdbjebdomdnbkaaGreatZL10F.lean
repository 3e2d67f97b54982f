/- Boxes out of dice. No statement is proved here. -/
import Derived.Test.YtdbjebdomdnbkaaGreatZL10E
namespace Go.Proofs.YtdbjebdomdnbkaaGreat
open Go.ChangeShapes Go.WideShapes Go.ChangeAt Go.RowKit
open List renaming drop → ka5, getD → ka0, getD_eq_getElem?_getD → ka8, getElem?_eq_getElem → ka9, length → ka1, length_append → ka4, length_cons → kb3, length_drop → kb9, length_map → kc8, length_nil → kb6, length_replicate → kb8, length_reverse → kc6, length_set → kc4, length_take → kb4, take → ka2, take_of_length_le → kc3
set_option linter.unusedVariables false
set_option linter.unusedSimpArgs false
set_option maxHeartbeats 4000000
set_option maxRecDepth 100000
theorem k7w (xs : List (List Int)) (i : Nat) (h : i < xs.length) : (kW xs)[i]? = some (D.sl (dI .i64 (ka0 xs i [])) (ka0 xs i []).length) := by
 have := aF xs i h
 rw [List.getElem?_drop, Nat.add_zero] at this; exact this
def kbV (l : List Int) : Int := IntKind.i64.wrap (1 * (((2 ^ (1 + (kC l 7))) : Nat) : Int))
def orI (a b : Int) : Int := qJ .or .i64 a b
def cM (l : List Int) : Nat → List Int
 | 0 => l
 | i + 1 => kA (cM l i) 7
def knK (l : List Int) (k : Int) : Nat → Int
 | 0 => k
 | i + 1 => orI (knK l k i) (kbV (cM l i))
theorem vN {l : List Int} (h : Byt l) : ∀ i, Byt (cM l i)
 | 0 => h
 | i + 1 => kH _ (vN h i)
def thE (x m : List Int) : Bool := decide (ka1 x = ka1 m ∧ ka0 x 0 0 = ka0 m 0 0)
def lY (ms : List (List Int)) (m : List Int) : Bool := ms.any fun x => thE x m
theorem u7u (ms : List (List Int)) (m : List Int) : lY (ka2 0 ms) m = false := rfl
theorem oJ {ms : List (List Int)} {m : List Int} {j : Nat} (h : j < ms.length) : lY (ka2 (j + 1) ms) m = (lY (ka2 j ms) m || thE (ka0 ms j []) m) := by
 unfold lY
 rw [ka8, ka9 h, List.take_succ_eq_append_getElem h, List.any_append]
 simp
theorem u7s {ms : List (List Int)} {m : List Int} {j : Nat} (h : j < ms.length) (h1 : lY (ka2 j ms) m = true) : lY (ka2 (j + 1) ms) m = true := by
 rw [oJ h, h1]; rfl
theorem u7t {ms : List (List Int)} {m : List Int} {j : Nat} (h : j < ms.length) (h1 : ka1 (ka0 ms j []) = ka1 m ∧ ka0 (ka0 ms j []) 0 0 = ka0 m 0 0) : lY (ka2 (j + 1) ms) m = true := by
 rw [oJ h, show thE (ka0 ms j []) m = true from decide_eq_true h1, Bool.or_true]
theorem u4y {ms : List (List Int)} {m : List Int} {j : Nat} (h : j < ms.length) (h0 : lY (ka2 j ms) m = false) (h1 : ¬ (ka1 (ka0 ms j []) = ka1 m ∧ ka0 (ka0 ms j []) 0 0 = ka0 m 0 0)) : lY (ka2 (j + 1) ms) m = false := by
 rw [oJ h, h0, show thE (ka0 ms j []) m = false from decide_eq_false h1]; rfl
def l6 (l : List Int) : Nat → List Int
 | 0 => l
 | i + 1 => kA (l6 l i) 7
def l5 (l : List Int) : Nat → List (List Int)
 | 0 => []
 | i + 1 => if lY (l5 l i) (uY (l6 l i)) = true then l5 l i else l5 l i ++ [uY (l6 l i)]
theorem fM {l : List Int} (h : Byt l) : ∀ i, Byt (l6 l i)
 | 0 => h
 | i + 1 => kH _ (fM h i)
theorem u8q {l : List Int} {i : Nat} {ms : List (List Int)} (h : l5 l i = ms) (h1 : lY ms (uY (l6 l i)) = true) : l5 l (i + 1) = ms := by
 subst h; exact if_pos h1
theorem u8r {l : List Int} {i : Nat} {ms : List (List Int)} (h : l5 l i = ms) (h1 : lY ms (uY (l6 l i)) = false) : l5 l (i + 1) = ms ++ [uY (l6 l i)] := by
 subst h; exact if_neg (by rw [h1]; decide)
theorem u8s {l : List Int} {k : Int} {i : Nat} {y x : Int} (h : knK l k i = y) (hx : x = orI y (kbV (cM l i))) : knK l k (i + 1) = x := by
 subst h; rw [hx]; rfl
theorem k29 {ms : List (List Int)} {m : List Int} {j c : Nat} {f : Bool} (hc : ms.length = c) (hj : c ≤ j) (h : lY (ka2 j ms) m = f) : lY ms m = f := by
 rw [kc3 (by omega)] at h; exact h
theorem k3m (l : List Int) : ∀ i, MsW (l5 l i)
 | 0 => MsW.nil
 | i + 1 => by
  rw [l5]; split
  ·exact k3m l i
  ·exact (k3m l i).snoc (Nat.le_trans (xF _) (by omega))
theorem xD (l : List Int) : ∀ i, ka1 (l5 l i) ≤ i
 | 0 => Nat.le_refl _
 | i + 1 => by
  have := xD l i
  rw [l5]; split
  ·omega
  ·rw [ka4, List.length_singleton]; omega
def bo1 (l : List Int) : List Int := kA (kA l 7) 3
def bo2 (l : List Int) : List Int := cM (bo1 l) (kC (kA l 7) 3)
def rtT : List Int := [44100, 44100, 48000, 48000, 8000, 8000, 32000, 50000, 96000, 192000]
def szT : List Int := [16, 64, 64, 1024, 2048, 2048, 1, 65536]
def bo3 (l : List Int) : List Int := yI rtT (bo2 l) 5
def bo4 (l : List Int) : List Int := yI szT (bo3 l) 4
def bo5 (l : List Int) : List Int := kA (bo4 l) 3
def boN (l : List Int) : Nat := 1 + kC (bo4 l) 3
def boD (l : List Int) : List Int := l6 (bo5 l) (boN l)
def tW (l : List Int) : Int := knK (bo1 l) (kbV l) (kC (kA l 7) 3)
def tV (l : List Int) : List Int := dE (vX rtT (bo2 l) 5) (vT rtT (bo2 l) 5)
def rU (l : List Int) : Nat := yZ (vX rtT (bo2 l) 5) (vT rtT (bo2 l) 5)
def tU (l : List Int) : List Int := dE (vX szT (bo3 l) 4) (vT szT (bo3 l) 4)
def rT (l : List Int) : Nat := yZ (vX szT (bo3 l) 4) (vT szT (bo3 l) 4)
def iY (l : List Int) : List (List Int) := l5 (bo5 l) (boN l)
def MsN (xs : List (List Int)) : Prop := ∀ l ∈ xs, 1 ≤ ka1 l
theorem MsN.nil : MsN [] := fun l h => by cases h
theorem MsN.snoc {xs : List (List Int)} {l : List Int} (h : MsN xs) (hl : 1 ≤ ka1 l) : MsN (xs ++ [l]) := fun m hm => (List.mem_append.1 hm).elim (h m) fun hm => by
 rw [List.mem_singleton.1 hm]; exact hl
theorem MsN.at {xs : List (List Int)} (h : MsN xs) {i : Nat} (hi : i < xs.length) : 1 ≤ ka1 (ka0 xs i []) := by
 rw [ka8, ka9 hi]; exact h _ (List.getElem_mem hi)
attribute [local irreducible] vX yI vT dE yZ kC kA uY lY
abbrev qT := ([44100, 44100, 48000, 48000, 8000, 8000, 32000, 50000, 96000, 192000] : List Int)
abbrev qS (l : List Int) := cM (kA (kA l 7) 3) (kC (kA l 7) 3)
abbrev kN (l : List Int) := yI qT (qS l) 5
abbrev kS := ([16, 64, 64, 1024, 2048, 2048, 1, 65536] : List Int)
abbrev u9 (l : List Int) := kA (yI kS (kN l) 4) 3
abbrev kR (l : List Int) (i2 : Nat) := l6 (u9 l) i2
abbrev yW (l : List Int) := dE (vX qT (qS l) 5) (vT qT (qS l) 5)
abbrev y4 (l : List Int) := dE (vX kS (kN l) 4) (vT kS (kN l) 4)
theorem jF {p : Prop} (h : p := by (simp only [qA, k8, uF, ka4, kb3, kb6, kb4, kb9, kb8, kc4, kc8, kc6, Nat.mul_one] <;> omega)) : p := h
abbrev vI (y : Int) (l : List Int) (q : Nat) : BC := .cs [iC y, .d (D.sl (dI .i64 (yW l)) (yZ (vX qT (qS l) 5) (vT qT (qS l) 5))), .own 6 0 q 1 true, .d (D.sl (dI .i64 (y4 l)) (yZ (vX kS (kN l) 4) (vT kS (kN l) 4)))]
abbrev uQ : BC := .ds [iD 0, D.lit (.slice none 0 0), D.lit (.slice none 0 0), D.lit (.slice none 0 0)]
abbrev y9 (l : List Int) (i2 : Nat) : BC := .ds [D.sl (dI .u8 (kA (kR l i2) 7)) (ka1 (kA (kR l i2) 7))]
abbrev i0 (l : List Int) (i : Nat) : BC := .ds [D.sl (dI .u8 (cM (kA (kA l 7) 3) i)) (ka1 (cM (kA (kA l 7) 3) i))]
abbrev iZ (y : Int) : BC := .ds [iD y, D.lit (.slice none 0 0), D.lit (.slice none 0 0), D.lit (.slice none 0 0)]
theorem u7e (l : List Int) (hb : Byt l) : Fun 58 [.c (.ptr 0 0)] (kD [(0, some (78, .ds [D.sl (dI .u8 l) (ka1 l)]))]) 1 (.e (.agg [iC (tW l), .d (D.sl (dI .i64 (tV l)) (rU l)), .d (D.sl (kW (iY l)) (ka1 (iY l))), .d (D.sl (dI .i64 (tU l)) (rT l))])) (kD [(0, some (78, .ds [D.sl (dI .u8 (boD l)) (ka1 (boD l))]))]) 1 := by
 refine Fun.mk (n := 89) Tryz.func58 rfl rfl (Nat.le_of_ble_eq_true rfl) ?_
 intro cx hcx
 refine kG [.no] True [(0, rV 0 0), (2, rV 1 0)] [(0, some (78, .ds [db l (ka1 l)])), (1, some (53, uQ))] 2 trivial ?_
 have hx1 : ((((((kC l 7) : Nat) : Int) < 7) ∨ ((kC l 7) = 0)) ∧ ((kC l 7) ≤ 255)) := kZ l (7 : Int) (kL : Byt l)
 have hx2 : (Byt (kA l 7)) := kH (7 : Int) (kL : Byt l)
 refine kG [.no, .call [0] (uV (kC l 7)) [(0, some (78, .ds [db (kA l 7) (ka1 (kA l 7))]))] 1 [] none, .w, .n2 (1 + (kC l 7)) 0, .no, .no, .no] ((_) ∧ (qB (1 + (kC l 7 : Int))) ∧ (((1 + (kC l 7 : Int)) : Int) = (((1 + (kC l 7)) : Nat) : Int)) ∧ ((1 + (kC l 7)) ≤ 64)) [(0, rV 0 0), (2, rV 1 0), (3, rV 2 0)] [(0, some (78, .ds [db (kA l 7) (ka1 (kA l 7))])), (1, some (53, uQ)), (2, some (53, .ds [iD (IntKind.i64.wrap (1 * (((2 ^ (1 + (kC l 7))) : Nat) : Int))), k9, k9, k9]))] 3 ⟨(uL l 7 (kL : Byt l)), ⟨by omega, by omega⟩, (by rfl), zo⟩ ?_
 refine AW.seq ?_
 have hx3 : ((((((kC (kA l 7) 3) : Nat) : Int) < 3) ∨ ((kC (kA l 7) 3) = 0)) ∧ ((kC (kA l 7) 3) ≤ 255)) := kZ (kA l 7) (3 : Int) (kL : Byt (kA l 7))
 have hx4 : (Byt (kA (kA l 7) 3)) := kH (3 : Int) (kL : Byt (kA l 7))
 refine kG [.no, .call [0] (uV (kC (kA l 7) 3)) [(0, some (78, .ds [db (kA (kA l 7) 3) (ka1 (kA (kA l 7) 3))]))] 1 [] none, .no] _ [(0, rV 0 0), (2, rV 1 0), (3, rV 2 0), (4, uV (kC (kA l 7) 3))] [(0, some (78, .ds [db (kA (kA l 7) 3) (ka1 (kA (kA l 7) 3))])), (1, some (53, uQ)), (2, some (53, .ds [iD (IntKind.i64.wrap (1 * (((2 ^ (1 + (kC l 7))) : Nat) : Int))), k9, k9, k9]))] 3 (uL (kA l 7) 3 (kL : Byt (kA l 7))) ?_
 refine AW.block ?_
 refine kU 1 hcx (fun (x : {x : Nat × Int // match x with | (i, y) => (i ≤ kC (kA l 7) 3) ∧ (knK (kA (kA l 7) 3) (kbV l) i = y)}) => match x with | ⟨(i, y), _⟩ => (⟨[(0, rV 0 0), (2, rV 1 0), (3, rV 2 0), (4, iV ((kC (kA l 7) 3 : Int) - (i : Int)))], [(0, some (78, (i0 l i))), (1, some (53, uQ)), (2, some (53, (iZ y)))], 3⟩ : ES)) (fun x => match x with | ⟨(i, y), _⟩ => kC (kA l 7) 3 - i) ⟨((0 : Nat), ((IntKind.i64.wrap (1 * (((2 ^ (1 + (kC l 7))) : Nat) : Int))) : Int)), ⟨zo, rfl⟩⟩ [] (P := (kQ 0) ∧ (kQ 0) ∧ (kQ 0) ∧ ((((kC (kA l 7) 3 : Int) - 0) : Int) = (kC (kA l 7) 3 : Int)) ∧ (([db (cM (kA (kA l 7) 3) 0) (ka1 (cM (kA (kA l 7) 3) 0))] : List D) = [db (kA (kA l 7) 3) (ka1 (kA (kA l 7) 3))]) ∧ (kY [iD 0, k9, k9, k9]) ∧ (kY [iD (IntKind.i64.wrap (1 * (((2 ^ (1 + (kC l 7))) : Nat) : Int))), k9, k9, k9])) zk ⟨rfl, rfl, rfl, (by rfl), (by rfl), rfl, rfl⟩ ?_
 rintro ⟨⟨i, y⟩, hinv0⟩
 obtain ⟨hi, hy⟩ : (i ≤ kC (kA l 7) 3) ∧ (knK (kA (kA l 7) 3) (kbV l) i = y) := hinv0
 refine qV (l := [(0, rV 0 0), (2, rV 1 0), (3, rV 2 0), (4, iV ((kC (kA l 7) 3 : Int) - (i : Int)))]) (g := [(0, some (78, (i0 l i))), (1, some (53, uQ)), (2, some (53, (iZ y)))]) (nx := 3) rfl rfl rfl ?_
 refine AW.seq ?_
 by_cases hx5 : ((0 : Int) < ((((kC (kA l 7) 3) : Nat) : Int) - ((i : Nat) : Int)))
 ·refine kG [.no, .b true] (((0 : Int) < ((kC (kA l 7) 3 : Int) - (i : Int)))) [(0, rV 0 0), (2, rV 1 0), (3, rV 2 0), (4, iV ((kC (kA l 7) 3 : Int) - ↑i)), (18, bV true)] [(0, some (78, (i0 l i))), (1, some (53, uQ)), (2, some (53, (iZ y)))] 3 zo ?_
  refine u1 ?_
  refine AW.seq ?_
  refine AW.block ?_
  have hx6 : ((((((kC (cM (kA (kA l 7) 3) i) 7) : Nat) : Int) < 7) ∨ ((kC (cM (kA (kA l 7) 3) i) 7) = 0)) ∧ ((kC (cM (kA (kA l 7) 3) i) 7) ≤ 255)) := kZ (cM (kA (kA l 7) 3) i) (7 : Int) ((vN (kL : Byt (kA (kA l 7) 3)) _))
  have hx7 : (Byt (kA (cM (kA (kA l 7) 3) i) 7)) := kH (7 : Int) ((vN (kL : Byt (kA (kA l 7) 3)) _))
  refine aC [.no, .no, .no, .call [0] (iV (kC (cM (kA (kA l 7) 3) i) 7 : Int)) [(0, some (78, .ds [db (kA (cM (kA (kA l 7) 3) i) 7) (ka1 (kA (cM (kA (kA l 7) 3) i) 7))]))] 1 [] none, .w, .n2 (1 + (kC (cM (kA (kA l 7) 3) i) 7)) 0, .i (orI y (IntKind.i64.wrap (1 * (((2 ^ (1 + (kC (cM (kA (kA l 7) 3) i) 7))) : Nat) : Int)))), .no, .no] ((_) ∧ ((-9223372036854775808) ≤ (1 + (kC (cM (kA (kA l 7) 3) i) 7 : Int)) ∧ (1 + (kC (cM (kA (kA l 7) 3) i) 7 : Int)) ≤ 9223372036854775807) ∧ (((1 + (kC (cM (kA (kA l 7) 3) i) 7 : Int)) : Int) = (((1 + (kC (cM (kA (kA l 7) 3) i) 7)) : Nat) : Int)) ∧ ((1 + (kC (cM (kA (kA l 7) 3) i) 7)) ≤ 64) ∧ (qJ .or .i64 y (IntKind.i64.wrap (1 * (((2 ^ (1 + (kC (cM (kA (kA l 7) 3) i) 7))) : Nat) : Int))) = (orI y (IntKind.i64.wrap (1 * (((2 ^ (1 + (kC (cM (kA (kA l 7) 3) i) 7))) : Nat) : Int)))))) [(0, rV 0 0), (2, rV 1 0), (3, rV 2 0), (4, iV ((kC (kA l 7) 3 : Int) - ↑i))] [(0, some (78, .ds [db (kA (cM (kA (kA l 7) 3) i) 7) (ka1 (kA (cM (kA (kA l 7) 3) i) 7))])), (1, some (53, uQ)), (2, some (53, .ds [iD (orI y (IntKind.i64.wrap (1 * (((2 ^ (1 + (kC (cM (kA (kA l 7) 3) i) 7))) : Nat) : Int)))), k9, k9, k9]))] 3 ⟨(uL (cM (kA (kA l 7) 3) i) 7 (vN (kL : Byt (kA (kA l 7) 3)) _)), ⟨by omega, by omega⟩, (by rfl), zo, rfl⟩ ?_
  refine uG [.no, .w, .no] (qB (((kC (kA l 7) 3 : Int) - (i : Int)) - 1)) [(0, rV 0 0), (2, rV 1 0), (3, rV 2 0), (4, iV (((kC (kA l 7) 3 : Int) - ↑i) - 1))] ⟨by omega, by omega⟩ ?_
  exact qH ⟨(((i + 1) : Nat), ((orI y (IntKind.i64.wrap (1 * (((2 ^ (1 + (kC (cM (kA (kA l 7) 3) i) 7))) : Nat) : Int)))) : Int)), ⟨zo, (u8s hy rfl)⟩⟩ [] (P := (kQ 0) ∧ (kQ 0) ∧ (kQ 0) ∧ ((((kC (kA l 7) 3 : Int) - (((i + 1) : Nat) : Int)) : Int) = (((kC (kA l 7) 3 : Int) - (i : Int)) - 1)) ∧ (([db (cM (kA (kA l 7) 3) (i + 1)) (ka1 (cM (kA (kA l 7) 3) (i + 1)))] : List D) = [db (kA (cM (kA (kA l 7) 3) i) 7) (ka1 (kA (cM (kA (kA l 7) 3) i) 7))]) ∧ (kY [iD 0, k9, k9, k9]) ∧ (kY [iD (orI y (IntKind.i64.wrap (1 * (((2 ^ (1 + (kC (cM (kA (kA l 7) 3) i) 7))) : Nat) : Int)))), k9, k9, k9])) zk ⟨rfl, rfl, rfl, zo, (by rfl), rfl, rfl⟩ (show kC (kA l 7) 3 - (i + 1) < kC (kA l 7) 3 - i from zo)
 ·refine kG [.no, .b false] (¬ ((0 : Int) < ((kC (kA l 7) 3 : Int) - (i : Int)))) [(0, rV 0 0), (2, rV 1 0), (3, rV 2 0), (4, iV ((kC (kA l 7) 3 : Int) - ↑i)), (18, bV false)] [(0, some (78, (i0 l i))), (1, some (53, uQ)), (2, some (53, (iZ y)))] 3 zo ?_
  refine zf ?_
  refine AW.exit ?_
  obtain rfl : i = (kC (kA l 7) 3) := (by omega)
  refine kG (kJ 6 [(.fz (.no)), .call [0] (.e (.agg [.d (dl (yW l) (yZ (vX qT (qS l) 5) (vT qT (qS l) 5)))])) [(0, some (78, .ds [db (kN l) (ka1 (kN l))]))] 1 [] none, .no, .no]) ((([iD 44100, iD 44100, iD 48000, iD 48000, iD 8000, iD 8000, iD 32000, iD 50000, iD 96000, iD 192000] : List D).length = 5 * 2) ∧ (_)) [(0, rV 0 0), (2, rV 1 0), (3, rV 2 0)] [(0, some (78, .ds [db (kN l) (ka1 (kN l))])), (1, some (53, uQ)), (2, some (53, .ds [iD y, dl (yW l) (yZ (vX qT (qS l) 5) (vT qT (qS l) 5)), k9, k9]))] 4 ⟨jF, (u1e qT 5 (qS l) (by (simp only [qA, k8, ka4, kb3, kb6, kb4, kb9, kb8, kc4] <;> omega)) zo zo (vN (kL : Byt (kA (kA l 7) 3)) _))⟩ ?_
  refine kG (kJ 5 [(.fz (.no)), .call [0] (.e (.agg [.d (dl (y4 l) (yZ (vX kS (kN l) 4) (vT kS (kN l) 4)))])) [(0, some (78, .ds [db (yI kS (kN l) 4) (ka1 (yI kS (kN l) 4))]))] 1 [] none, .no, .no]) ((([iD 16, iD 64, iD 64, iD 1024, iD 2048, iD 2048, iD 1, iD 65536] : List D).length = 4 * 2) ∧ (_)) [(0, rV 0 0), (2, rV 1 0), (3, rV 2 0)] [(0, some (78, .ds [db (yI kS (kN l) 4) (ka1 (yI kS (kN l) 4))])), (1, some (53, uQ)), (2, some (53, .ds [iD y, dl (yW l) (yZ (vX qT (qS l) 5) (vT qT (qS l) 5)), k9, dl (y4 l) (yZ (vX kS (kN l) 4) (vT kS (kN l) 4))]))] 5 ⟨jF, (u1e kS 4 (kN l) (by (simp only [qA, k8, ka4, kb3, kb6, kb4, kb9, kb8, kc4] <;> omega)) zo zo (v8 (vN (kL : Byt (kA (kA l 7) 3)) _)))⟩ ?_
  refine AW.seq ?_
  have hx8 : ((((((kC (yI kS (kN l) 4) 3) : Nat) : Int) < 3) ∨ ((kC (yI kS (kN l) 4) 3) = 0)) ∧ ((kC (yI kS (kN l) 4) 3) ≤ 255)) := kZ (yI kS (kN l) 4) (3 : Int) ((v8 (v8 (vN (kL : Byt (kA (kA l 7) 3)) _))))
  have hx9 : (Byt (u9 l)) := kH (3 : Int) ((v8 (v8 (vN (kL : Byt (kA (kA l 7) 3)) _))))
  refine kG [.no, .call [0] (uV (kC (yI kS (kN l) 4) 3)) [(0, some (78, .ds [db (u9 l) (ka1 (u9 l))]))] 1 [] none, .w, .no] ((_) ∧ (qB (1 + (kC (yI kS (kN l) 4) 3 : Int)))) [(0, rV 0 0), (2, rV 1 0), (3, rV 2 0), (5, iV (1 + (kC (yI kS (kN l) 4) 3 : Int)))] [(0, some (78, .ds [db (u9 l) (ka1 (u9 l))])), (1, some (53, uQ)), (2, some (53, .ds [iD y, dl (yW l) (yZ (vX qT (qS l) 5) (vT qT (qS l) 5)), k9, dl (y4 l) (yZ (vX kS (kN l) 4) (vT kS (kN l) 4))]))] 5 ⟨(uL (yI kS (kN l) 4) 3 (v8 (v8 (vN (kL : Byt (kA (kA l 7) 3)) _)))), ⟨by omega, by omega⟩⟩ ?_
  refine AW.block ?_
  refine cQ 2 2 1 55 (cs' := [iC y, .d (dl (yW l) (yZ (vX qT (qS l) 5) (vT qT (qS l) 5))), .own 5 0 0 1 true, .d (dl (y4 l) (yZ (vX kS (kN l) 4) (vT kS (kN l) 4)))]) rfl rfl rfl ?_
  refine kU 1 hcx (fun (x : {x : Nat × Nat × List (List Int) // match x with | (i2, q, ms) => (i2 ≤ 1 + kC (yI kS (kN l) 4) 3) ∧ (l5 (u9 l) i2 = ms) ∧ (ka1 ms = q ∧ q ≤ i2) ∧ (MsN ms) ∧ (MsW ms)}) => match x with | ⟨(i2, q, ms), _⟩ => (⟨[(0, rV 0 0), (2, rV 1 0), (3, rV 2 0), (5, iV ((((1 + (kC (yI kS (kN l) 4) 3)) : Nat) : Int) - (i2 : Int)))], [(0, some (78, .ds [db (kR l i2) (ka1 (kR l i2))])), (1, some (53, uQ)), (2, some (53, (vI y l q))), (6, some (55, .ds (kW ms)))], 7⟩ : ES)) (fun x => match x with | ⟨(i2, q, ms), _⟩ => 1 + kC (yI kS (kN l) 4) 3 - i2) ⟨((0 : Nat), (0 : Nat), (([] : List (List Int)) : List (List Int))), ⟨zo, rfl, ⟨rfl, by omega⟩, MsN.nil, MsW.nil⟩⟩ [(6, 5)] (P := (kQ 0) ∧ (kQ 0) ∧ (kQ 0) ∧ ((((((1 + (kC (yI kS (kN l) 4) 3)) : Nat) : Int) - 0) : Int) = (1 + (kC (yI kS (kN l) 4) 3 : Int))) ∧ (([db (l6 (u9 l) 0) (ka1 (l6 (u9 l) 0))] : List D) = [db (u9 l) (ka1 (u9 l))]) ∧ (kY [iD 0, k9, k9, k9]) ∧ (kM y) ∧ (kY (dI .i64 (yW l))) ∧ (kQ (yZ (vX qT (qS l) 5) (vT qT (qS l) 5))) ∧ (kQ 0) ∧ (kQ 0) ∧ (kY (dI .i64 (y4 l))) ∧ (kQ (yZ (vX kS (kN l) 4) (vT kS (kN l) 4))) ∧ (((kW ([] : List (List Int))) : List D) = ([] : List D))) zk ⟨rfl, rfl, rfl, (by rfl), (by rfl), rfl, rfl, rfl, rfl, rfl, rfl, rfl, rfl, (by rfl)⟩ ?_
  rintro ⟨⟨i2, q, ms⟩, hinv1⟩
  obtain ⟨hi2, hm, hq, hN, hW⟩ : (i2 ≤ 1 + kC (yI kS (kN l) 4) 3) ∧ (l5 (u9 l) i2 = ms) ∧ (ka1 ms = q ∧ q ≤ i2) ∧ (MsN ms) ∧ (MsW ms) := hinv1
  refine qV (l := [(0, rV 0 0), (2, rV 1 0), (3, rV 2 0), (5, iV ((((1 + (kC (yI kS (kN l) 4) 3)) : Nat) : Int) - (i2 : Int)))]) (g := [(0, some (78, .ds [db (kR l i2) (ka1 (kR l i2))])), (1, some (53, uQ)), (2, some (53, (vI y l q))), (6, some (55, .ds (kW ms)))]) (nx := 7) rfl rfl rfl ?_
  refine AW.seq ?_
  by_cases hx10 : ((0 : Int) < ((((1 + (kC (yI kS (kN l) 4) 3)) : Nat) : Int) - ((i2 : Nat) : Int)))
  ·refine kG [.no, .b true] (((0 : Int) < ((((1 + (kC (yI kS (kN l) 4) 3)) : Nat) : Int) - (i2 : Int)))) [(0, rV 0 0), (2, rV 1 0), (3, rV 2 0), (5, iV ((((1 + (kC (yI kS (kN l) 4) 3)) : Nat) : Int) - ↑i2)), (50, bV true)] [(0, some (78, .ds [db (kR l i2) (ka1 (kR l i2))])), (1, some (53, uQ)), (2, some (53, (vI y l q))), (6, some (55, .ds (kW ms)))] 7 zo ?_
   refine u1 ?_
   refine AW.seq ?_
   refine AW.block ?_
   have hx11 : (((1 : Nat) ≤ (ka1 (uY (kR l i2)))) ∧ ((ka1 (uY (kR l i2))) ≤ 6)) := (k7z ((fM (kL : Byt (u9 l)) _)))
   refine kG [.no, .call [0] (sV .i64 (uY (kR l i2)) (ka1 (uY (kR l i2)))) [(0, some (78, (y9 l i2)))] 1 [] none, .no] _ [(0, rV 0 0), (2, rV 1 0), (3, rV 2 0), (5, iV ((((1 + (kC (yI kS (kN l) 4) 3)) : Nat) : Int) - ↑i2)), (6, sV .i64 (uY (kR l i2)) (ka1 (uY (kR l i2))))] [(0, some (78, (y9 l i2))), (1, some (53, uQ)), (2, some (53, (vI y l q))), (6, some (55, .ds (kW ms)))] 7 (u7f (kR l i2) (fM (kL : Byt (u9 l)) _)) ?_
   refine kV [.no] True [(0, rV 0 0), (2, rV 1 0), (3, rV 2 0), (5, iV ((((1 + (kC (yI kS (kN l) 4) 3)) : Nat) : Int) - ↑i2)), (6, sV .i64 (uY (kR l i2)) (ka1 (uY (kR l i2)))), (7, bV false)] trivial ?_
   refine AW.seq ?_
   refine kV (kJ 4 []) True [(0, rV 0 0), (2, rV 1 0), (3, rV 2 0), (5, iV ((((1 + (kC (yI kS (kN l) 4) 3)) : Nat) : Int) - ↑i2)), (6, sV .i64 (uY (kR l i2)) (ka1 (uY (kR l i2)))), (7, bV false), (56, oV 6 0 q 1), (57, uV q), (58, iV 0)] trivial ?_
   refine AW.block ?_
   refine kU 1 hcx (fun (x : {x : Nat × Bool // match x with | (j, f) => (j ≤ q) ∧ (lY (ka2 j ms) (uY (kR l i2)) = f)}) => match x with | ⟨(j, f), _⟩ => (⟨[(0, rV 0 0), (2, rV 1 0), (3, rV 2 0), (5, iV ((((1 + (kC (yI kS (kN l) 4) 3)) : Nat) : Int) - (i2 : Int))), (6, sV .i64 (uY (kR l i2)) (ka1 (uY (kR l i2)))), (7, kP (D.lit (.bool (f)))), (56, oV 6 0 q 1), (57, uV q), (58, uV j)], [(0, some (78, (y9 l i2))), (1, some (53, uQ)), (2, some (53, (vI y l q))), (6, some (55, .ds (kW ms)))], 7⟩ : ES)) (fun x => match x with | ⟨(j, f), _⟩ => q - j) ⟨((0 : Nat), (false : Bool)), ⟨zo, (u7u _ _)⟩⟩ [] (P := (kQ 0) ∧ (kQ 0) ∧ (kQ 0) ∧ (kM ((((1 + (kC (yI kS (kN l) 4) 3)) : Nat) : Int) - (i2 : Int))) ∧ (kY (dI .i64 (uY (kR l i2)))) ∧ (kQ (ka1 (uY (kR l i2)))) ∧ ((false) = false) ∧ (kQ 0) ∧ (kQ q) ∧ (kM (q : Int)) ∧ (kM 0) ∧ (kY [db (kA (kR l i2) 7) (ka1 (kA (kR l i2) 7))]) ∧ (kY [iD 0, k9, k9, k9]) ∧ (kM y) ∧ (kY (dI .i64 (yW l))) ∧ (kQ (yZ (vX qT (qS l) 5) (vT qT (qS l) 5))) ∧ (kQ 0) ∧ (kQ q) ∧ (kY (dI .i64 (y4 l))) ∧ (kQ (yZ (vX kS (kN l) 4) (vT kS (kN l) 4))) ∧ (kY (kW ms))) zk ⟨rfl, rfl, rfl, rfl, rfl, rfl, (by rfl), rfl, rfl, rfl, rfl, rfl, rfl, rfl, rfl, rfl, rfl, rfl, rfl, rfl, rfl⟩ ?_
   rintro ⟨⟨j, f⟩, hinv2⟩
   obtain ⟨hj, hf⟩ : (j ≤ q) ∧ (lY (ka2 j ms) (uY (kR l i2)) = f) := hinv2
   refine qV (l := [(0, rV 0 0), (2, rV 1 0), (3, rV 2 0), (5, iV ((((1 + (kC (yI kS (kN l) 4) 3)) : Nat) : Int) - (i2 : Int))), (6, sV .i64 (uY (kR l i2)) (ka1 (uY (kR l i2)))), (7, kP (D.lit (.bool (f)))), (56, oV 6 0 q 1), (57, uV q), (58, uV j)]) (g := [(0, some (78, (y9 l i2))), (1, some (53, uQ)), (2, some (53, (vI y l q))), (6, some (55, .ds (kW ms)))]) (nx := 7) rfl rfl rfl ?_
   by_cases hx12 : (((j : Nat) : Int) < ((q : Nat) : Int))
   ·refine kG [.b true] (((j : Int) < (q : Int))) [(0, rV 0 0), (2, rV 1 0), (3, rV 2 0), (5, iV ((((1 + (kC (yI kS (kN l) 4) 3)) : Nat) : Int) - ↑i2)), (6, sV .i64 (uY (kR l i2)) (ka1 (uY (kR l i2)))), (7, kP (D.lit (.bool (f)))), (56, oV 6 0 q 1), (57, uV q), (58, uV j), (59, bV true)] [(0, some (78, (y9 l i2))), (1, some (53, uQ)), (2, some (53, (vI y l q))), (6, some (55, .ds (kW ms)))] 7 zo ?_
    refine AW.seq ?_
    refine u1 ?_
    refine AW.seq ?_
    refine AW.block ?_
    have hx13 : ((ka1 (ka0 ms j ([] : List Int))) ≤ 1000000) := MsW.at (kL : MsW ms) _
    refine kV [.n2 j j, .d (dl (ka0 ms j ([] : List Int)) (ka1 (ka0 ms j ([] : List Int)))), .no] ((kM (j : Int)) ∧ (j < q) ∧ ((0 : Nat) + j * 1 = j) ∧ ((kW ms)[j]? = some (dl (ka0 ms j ([] : List Int)) (ka1 (ka0 ms j ([] : List Int)))))) [(0, rV 0 0), (2, rV 1 0), (3, rV 2 0), (5, iV ((((1 + (kC (yI kS (kN l) 4) 3)) : Nat) : Int) - ↑i2)), (6, sV .i64 (uY (kR l i2)) (ka1 (uY (kR l i2)))), (7, kP (D.lit (.bool (f)))), (9, sV .i64 (ka0 ms j ([] : List Int)) (ka1 (ka0 ms j ([] : List Int)))), (56, oV 6 0 q 1), (57, uV q), (58, uV j)] ⟨rfl, zo, zo, (k7w _ _ zo)⟩ ?_
    rcases Bool.eq_false_or_eq_true (f) with hx15 | hx15
    ·subst hx15
     have hx16 : 1 ≤ ka1 (ka0 ms j ([] : List Int)) := hN.at zo
     refine aC (kJ 4 []) True [(0, rV 0 0), (2, rV 1 0), (3, rV 2 0), (5, iV ((((1 + (kC (yI kS (kN l) 4) 3)) : Nat) : Int) - ↑i2)), (6, sV .i64 (uY (kR l i2)) (ka1 (uY (kR l i2)))), (7, bV true), (56, oV 6 0 q 1), (57, uV q), (58, uV j)] [(0, some (78, (y9 l i2))), (1, some (53, uQ)), (2, some (53, (vI y l q))), (6, some (55, .ds (kW ms)))] 7 trivial ?_
     refine uG [.w, .no] (qB ((j : Int) + 1)) [(0, rV 0 0), (2, rV 1 0), (3, rV 2 0), (5, iV ((((1 + (kC (yI kS (kN l) 4) 3)) : Nat) : Int) - ↑i2)), (6, sV .i64 (uY (kR l i2)) (ka1 (uY (kR l i2)))), (7, bV true), (56, oV 6 0 q 1), (57, uV q), (58, iV (↑j + 1))] ⟨by omega, by omega⟩ ?_
     exact qH ⟨(((j + 1) : Nat), (true : Bool)), ⟨zo, (by exact u7s zo hf)⟩⟩ [] (P := (kQ 0) ∧ (kQ 0) ∧ (kQ 0) ∧ (kM ((((1 + (kC (yI kS (kN l) 4) 3)) : Nat) : Int) - (i2 : Int))) ∧ (kY (dI .i64 (uY (kR l i2)))) ∧ (kQ (ka1 (uY (kR l i2)))) ∧ ((true) = true) ∧ (kQ 0) ∧ (kQ q) ∧ (kM (q : Int)) ∧ (((((j + 1) : Nat) : Int) : Int) = ((j : Int) + 1)) ∧ (kY [db (kA (kR l i2) 7) (ka1 (kA (kR l i2) 7))]) ∧ (kY [iD 0, k9, k9, k9]) ∧ (kM y) ∧ (kY (dI .i64 (yW l))) ∧ (kQ (yZ (vX qT (qS l) 5) (vT qT (qS l) 5))) ∧ (kQ 0) ∧ (kQ q) ∧ (kY (dI .i64 (y4 l))) ∧ (kQ (yZ (vX kS (kN l) 4) (vT kS (kN l) 4))) ∧ (kY (kW ms))) zk ⟨rfl, rfl, rfl, rfl, rfl, rfl, (by rfl), rfl, rfl, rfl, (by rfl), rfl, rfl, rfl, rfl, rfl, rfl, rfl, rfl, rfl, rfl⟩ (show q - (j + 1) < q - j from zo)
    ·subst hx15
     by_cases hx18 : ((((ka1 (ka0 ms j ([] : List Int))) : Nat) : Int) = (((ka1 (uY (kR l i2))) : Nat) : Int))
     ·by_cases hx20 : ((ka0 (ka0 ms j ([] : List Int)) 0 0) = (ka0 (uY (kR l i2)) 0 0))
      ·have hx21 : 1 ≤ ka1 (ka0 ms j ([] : List Int)) := hN.at zo
       refine aC (kJ 6 [.b true, .no, .no, .n 0, .d (D.lit (.int .i64 (ka0 (ka0 ms j ([] : List Int)) 0 0))), .no, .n 0, .d (D.lit (.int .i64 (ka0 (uY (kR l i2)) 0 0))), .b true, .no, .no, .no]) ((((((ka1 (ka0 ms j ([] : List Int))) : Nat) : Int) = (ka1 (uY (kR l i2)) : Int))) ∧ (kM 0) ∧ ((0 : Nat) < (ka1 (ka0 ms j ([] : List Int)))) ∧ ((ka5 0 (dI .i64 (ka0 ms j ([] : List Int))))[0]? = some (D.lit (.int .i64 (ka0 (ka0 ms j ([] : List Int)) 0 0)))) ∧ (kM 0) ∧ ((0 : Nat) < (ka1 (uY (kR l i2)))) ∧ ((ka5 0 (dI .i64 (uY (kR l i2))))[0]? = some (D.lit (.int .i64 (ka0 (uY (kR l i2)) 0 0)))) ∧ (((ka0 (ka0 ms j ([] : List Int)) 0 0) = (ka0 (uY (kR l i2)) 0 0)))) [(0, rV 0 0), (2, rV 1 0), (3, rV 2 0), (5, iV ((((1 + (kC (yI kS (kN l) 4) 3)) : Nat) : Int) - ↑i2)), (6, sV .i64 (uY (kR l i2)) (ka1 (uY (kR l i2)))), (7, bV true), (56, oV 6 0 q 1), (57, uV q), (58, uV j)] [(0, some (78, (y9 l i2))), (1, some (53, uQ)), (2, some (53, (vI y l q))), (6, some (55, .ds (kW ms)))] 7 ⟨zo, rfl, zo, (qN _ _ _ zo), rfl, zo, (qN _ _ _ zo), zo⟩ ?_
       refine uG [.w, .no] (qB ((j : Int) + 1)) [(0, rV 0 0), (2, rV 1 0), (3, rV 2 0), (5, iV ((((1 + (kC (yI kS (kN l) 4) 3)) : Nat) : Int) - ↑i2)), (6, sV .i64 (uY (kR l i2)) (ka1 (uY (kR l i2)))), (7, bV true), (56, oV 6 0 q 1), (57, uV q), (58, iV (↑j + 1))] ⟨by omega, by omega⟩ ?_
       exact qH ⟨(((j + 1) : Nat), (true : Bool)), ⟨zo, (by exact u7t zo zo)⟩⟩ [] (P := (kQ 0) ∧ (kQ 0) ∧ (kQ 0) ∧ (kM ((((1 + (kC (yI kS (kN l) 4) 3)) : Nat) : Int) - (i2 : Int))) ∧ (kY (dI .i64 (uY (kR l i2)))) ∧ (kQ (ka1 (uY (kR l i2)))) ∧ ((true) = true) ∧ (kQ 0) ∧ (kQ q) ∧ (kM (q : Int)) ∧ (((((j + 1) : Nat) : Int) : Int) = ((j : Int) + 1)) ∧ (kY [db (kA (kR l i2) 7) (ka1 (kA (kR l i2) 7))]) ∧ (kY [iD 0, k9, k9, k9]) ∧ (kM y) ∧ (kY (dI .i64 (yW l))) ∧ (kQ (yZ (vX qT (qS l) 5) (vT qT (qS l) 5))) ∧ (kQ 0) ∧ (kQ q) ∧ (kY (dI .i64 (y4 l))) ∧ (kQ (yZ (vX kS (kN l) 4) (vT kS (kN l) 4))) ∧ (kY (kW ms))) zk ⟨rfl, rfl, rfl, rfl, rfl, rfl, (by rfl), rfl, rfl, rfl, (by rfl), rfl, rfl, rfl, rfl, rfl, rfl, rfl, rfl, rfl, rfl⟩ (show q - (j + 1) < q - j from zo)
      ·have hx22 : 1 ≤ ka1 (ka0 ms j ([] : List Int)) := hN.at zo
       refine aC (kJ 6 [.b true, .no, .no, .n 0, .d (D.lit (.int .i64 (ka0 (ka0 ms j ([] : List Int)) 0 0))), .no, .n 0, .d (D.lit (.int .i64 (ka0 (uY (kR l i2)) 0 0))), .b false, .no, .no, .no]) ((((((ka1 (ka0 ms j ([] : List Int))) : Nat) : Int) = (ka1 (uY (kR l i2)) : Int))) ∧ (kM 0) ∧ ((0 : Nat) < (ka1 (ka0 ms j ([] : List Int)))) ∧ ((ka5 0 (dI .i64 (ka0 ms j ([] : List Int))))[0]? = some (D.lit (.int .i64 (ka0 (ka0 ms j ([] : List Int)) 0 0)))) ∧ (kM 0) ∧ ((0 : Nat) < (ka1 (uY (kR l i2)))) ∧ ((ka5 0 (dI .i64 (uY (kR l i2))))[0]? = some (D.lit (.int .i64 (ka0 (uY (kR l i2)) 0 0)))) ∧ (¬ ((ka0 (ka0 ms j ([] : List Int)) 0 0) = (ka0 (uY (kR l i2)) 0 0)))) [(0, rV 0 0), (2, rV 1 0), (3, rV 2 0), (5, iV ((((1 + (kC (yI kS (kN l) 4) 3)) : Nat) : Int) - ↑i2)), (6, sV .i64 (uY (kR l i2)) (ka1 (uY (kR l i2)))), (7, bV false), (56, oV 6 0 q 1), (57, uV q), (58, uV j)] [(0, some (78, (y9 l i2))), (1, some (53, uQ)), (2, some (53, (vI y l q))), (6, some (55, .ds (kW ms)))] 7 ⟨zo, rfl, zo, (qN _ _ _ zo), rfl, zo, (qN _ _ _ zo), zo⟩ ?_
       refine uG [.w, .no] (qB ((j : Int) + 1)) [(0, rV 0 0), (2, rV 1 0), (3, rV 2 0), (5, iV ((((1 + (kC (yI kS (kN l) 4) 3)) : Nat) : Int) - ↑i2)), (6, sV .i64 (uY (kR l i2)) (ka1 (uY (kR l i2)))), (7, bV false), (56, oV 6 0 q 1), (57, uV q), (58, iV (↑j + 1))] ⟨by omega, by omega⟩ ?_
       exact qH ⟨(((j + 1) : Nat), (false : Bool)), ⟨zo, (by exact u4y zo hf zo)⟩⟩ [] (P := (kQ 0) ∧ (kQ 0) ∧ (kQ 0) ∧ (kM ((((1 + (kC (yI kS (kN l) 4) 3)) : Nat) : Int) - (i2 : Int))) ∧ (kY (dI .i64 (uY (kR l i2)))) ∧ (kQ (ka1 (uY (kR l i2)))) ∧ ((false) = false) ∧ (kQ 0) ∧ (kQ q) ∧ (kM (q : Int)) ∧ (((((j + 1) : Nat) : Int) : Int) = ((j : Int) + 1)) ∧ (kY [db (kA (kR l i2) 7) (ka1 (kA (kR l i2) 7))]) ∧ (kY [iD 0, k9, k9, k9]) ∧ (kM y) ∧ (kY (dI .i64 (yW l))) ∧ (kQ (yZ (vX qT (qS l) 5) (vT qT (qS l) 5))) ∧ (kQ 0) ∧ (kQ q) ∧ (kY (dI .i64 (y4 l))) ∧ (kQ (yZ (vX kS (kN l) 4) (vT kS (kN l) 4))) ∧ (kY (kW ms))) zk ⟨rfl, rfl, rfl, rfl, rfl, rfl, (by rfl), rfl, rfl, rfl, (by rfl), rfl, rfl, rfl, rfl, rfl, rfl, rfl, rfl, rfl, rfl⟩ (show q - (j + 1) < q - j from zo)
     ·have hx23 : 1 ≤ ka1 (ka0 ms j ([] : List Int)) := hN.at zo
      refine aC (kJ 6 (.b false :: kJ 4 [])) (¬ ((((ka1 (ka0 ms j ([] : List Int))) : Nat) : Int) = (ka1 (uY (kR l i2)) : Int))) [(0, rV 0 0), (2, rV 1 0), (3, rV 2 0), (5, iV ((((1 + (kC (yI kS (kN l) 4) 3)) : Nat) : Int) - ↑i2)), (6, sV .i64 (uY (kR l i2)) (ka1 (uY (kR l i2)))), (7, bV false), (56, oV 6 0 q 1), (57, uV q), (58, uV j)] [(0, some (78, (y9 l i2))), (1, some (53, uQ)), (2, some (53, (vI y l q))), (6, some (55, .ds (kW ms)))] 7 zo ?_
      refine uG [.w, .no] (qB ((j : Int) + 1)) [(0, rV 0 0), (2, rV 1 0), (3, rV 2 0), (5, iV ((((1 + (kC (yI kS (kN l) 4) 3)) : Nat) : Int) - ↑i2)), (6, sV .i64 (uY (kR l i2)) (ka1 (uY (kR l i2)))), (7, bV false), (56, oV 6 0 q 1), (57, uV q), (58, iV (↑j + 1))] ⟨by omega, by omega⟩ ?_
      exact qH ⟨(((j + 1) : Nat), (false : Bool)), ⟨zo, (by exact u4y zo hf zo)⟩⟩ [] (P := (kQ 0) ∧ (kQ 0) ∧ (kQ 0) ∧ (kM ((((1 + (kC (yI kS (kN l) 4) 3)) : Nat) : Int) - (i2 : Int))) ∧ (kY (dI .i64 (uY (kR l i2)))) ∧ (kQ (ka1 (uY (kR l i2)))) ∧ ((false) = false) ∧ (kQ 0) ∧ (kQ q) ∧ (kM (q : Int)) ∧ (((((j + 1) : Nat) : Int) : Int) = ((j : Int) + 1)) ∧ (kY [db (kA (kR l i2) 7) (ka1 (kA (kR l i2) 7))]) ∧ (kY [iD 0, k9, k9, k9]) ∧ (kM y) ∧ (kY (dI .i64 (yW l))) ∧ (kQ (yZ (vX qT (qS l) 5) (vT qT (qS l) 5))) ∧ (kQ 0) ∧ (kQ q) ∧ (kY (dI .i64 (y4 l))) ∧ (kQ (yZ (vX kS (kN l) 4) (vT kS (kN l) 4))) ∧ (kY (kW ms))) zk ⟨rfl, rfl, rfl, rfl, rfl, rfl, (by rfl), rfl, rfl, rfl, (by rfl), rfl, rfl, rfl, rfl, rfl, rfl, rfl, rfl, rfl, rfl⟩ (show q - (j + 1) < q - j from zo)
   ·refine kG [.b false] (¬ ((j : Int) < (q : Int))) [(0, rV 0 0), (2, rV 1 0), (3, rV 2 0), (5, iV ((((1 + (kC (yI kS (kN l) 4) 3)) : Nat) : Int) - ↑i2)), (6, sV .i64 (uY (kR l i2)) (ka1 (uY (kR l i2)))), (7, kP (D.lit (.bool (f)))), (56, oV 6 0 q 1), (57, uV q), (58, uV j), (59, bV false)] [(0, some (78, (y9 l i2))), (1, some (53, uQ)), (2, some (53, (vI y l q))), (6, some (55, .ds (kW ms)))] 7 zo ?_
    refine AW.seq ?_
    refine zf ?_
    refine AW.exit ?_
    rcases Bool.eq_false_or_eq_true (f) with hx24 | hx24
    ·subst hx24
     refine kG [.no, .no] True [(0, rV 0 0), (2, rV 1 0), (3, rV 2 0), (5, iV ((((1 + (kC (yI kS (kN l) 4) 3)) : Nat) : Int) - ↑i2)), (6, sV .i64 (uY (kR l i2)) (ka1 (uY (kR l i2)))), (81, bV false)] [(0, some (78, (y9 l i2))), (1, some (53, uQ)), (2, some (53, (vI y l q))), (6, some (55, .ds (kW ms)))] 7 trivial ?_
     refine uM ?_
     refine uG [.no, .w, .no] ((-9223372036854775808) ≤ (((((1 + (kC (yI kS (kN l) 4) 3)) : Nat) : Int) - (i2 : Int)) - 1) ∧ (((((1 + (kC (yI kS (kN l) 4) 3)) : Nat) : Int) - (i2 : Int)) - 1) ≤ 9223372036854775807) [(0, rV 0 0), (2, rV 1 0), (3, rV 2 0), (5, iV (((((1 + (kC (yI kS (kN l) 4) 3)) : Nat) : Int) - ↑i2) - 1))] ⟨by omega, by omega⟩ ?_
     exact qH ⟨(((i2 + 1) : Nat), (q : Nat), (ms : List (List Int))), ⟨zo, (by exact u8q hm (k29 hq.1 zo hf)), zo, (by assumption), (by assumption)⟩⟩ [] (P := (kQ 0) ∧ (kQ 0) ∧ (kQ 0) ∧ ((((((1 + (kC (yI kS (kN l) 4) 3)) : Nat) : Int) - (((i2 + 1) : Nat) : Int)) : Int) = (((((1 + (kC (yI kS (kN l) 4) 3)) : Nat) : Int) - (i2 : Int)) - 1)) ∧ (([db (l6 (u9 l) (i2 + 1)) (ka1 (l6 (u9 l) (i2 + 1)))] : List D) = [db (kA (kR l i2) 7) (ka1 (kA (kR l i2) 7))]) ∧ (kY [iD 0, k9, k9, k9]) ∧ (kM y) ∧ (kY (dI .i64 (yW l))) ∧ (kQ (yZ (vX qT (qS l) 5) (vT qT (qS l) 5))) ∧ (kQ 0) ∧ (kQ q) ∧ (kY (dI .i64 (y4 l))) ∧ (kQ (yZ (vX kS (kN l) 4) (vT kS (kN l) 4))) ∧ (kY (kW ms))) zk ⟨rfl, rfl, rfl, zo, (by rfl), rfl, rfl, rfl, rfl, rfl, rfl, rfl, rfl, rfl⟩ (show 1 + kC (yI kS (kN l) 4) 3 - (i2 + 1) < 1 + kC (yI kS (kN l) 4) 3 - i2 from zo)
    ·subst hx24
     refine kG [.no, .no] True [(0, rV 0 0), (2, rV 1 0), (3, rV 2 0), (5, iV ((((1 + (kC (yI kS (kN l) 4) 3)) : Nat) : Int) - ↑i2)), (6, sV .i64 (uY (kR l i2)) (ka1 (uY (kR l i2)))), (81, bV true)] [(0, some (78, (y9 l i2))), (1, some (53, uQ)), (2, some (53, (vI y l q))), (6, some (55, .ds (kW ms)))] 7 trivial ?_
     refine zt ?_
     refine aC (kJ 4 [.ap none (q + 1) (kW (ms ++ ([(uY (kR l i2))] : List (List Int)))), .no, .no]) (([dl (uY (kR l i2)) (ka1 (uY (kR l i2)))].length = 1 * 1) ∧ (((kW ms) : List D).length = q * 1) ∧ ((q + 1) * 24 ≤ 140737488355328) ∧ (q + 1 = (q + 1)) ∧ (((kW ms) : List D) ++ [dl (uY (kR l i2)) (ka1 (uY (kR l i2)))] = (kW (ms ++ ([(uY (kR l i2))] : List (List Int)))))) [(0, rV 0 0), (2, rV 1 0), (3, rV 2 0), (5, iV ((((1 + (kC (yI kS (kN l) 4) 3)) : Nat) : Int) - ↑i2))] [(0, some (78, (y9 l i2))), (1, some (53, uQ)), (2, some (53, .cs [iC y, .d (dl (yW l) (yZ (vX qT (qS l) 5) (vT qT (qS l) 5))), .own 8 0 (q + 1) 1 true, .d (dl (y4 l) (yZ (vX kS (kN l) 4) (vT kS (kN l) 4)))])), (8, some (55, .ds (kW (ms ++ ([(uY (kR l i2))] : List (List Int))))))] 9 ⟨jF, jF, zo, zo, (i5 ms (uY (kR l i2)) (ka1 (uY (kR l i2))) (by rfl))⟩ ?_
     refine uG [.no, .w, .no] ((-9223372036854775808) ≤ (((((1 + (kC (yI kS (kN l) 4) 3)) : Nat) : Int) - (i2 : Int)) - 1) ∧ (((((1 + (kC (yI kS (kN l) 4) 3)) : Nat) : Int) - (i2 : Int)) - 1) ≤ 9223372036854775807) [(0, rV 0 0), (2, rV 1 0), (3, rV 2 0), (5, iV (((((1 + (kC (yI kS (kN l) 4) 3)) : Nat) : Int) - ↑i2) - 1))] ⟨by omega, by omega⟩ ?_
     exact qH ⟨(((i2 + 1) : Nat), ((q + 1) : Nat), ((ms ++ ([(uY (kR l i2))] : List (List Int))) : List (List Int))), ⟨zo, (by exact u8r hm (k29 hq.1 zo hf)), (by (simp only [qA, k8, ka4, kb3, kb6] <;> omega)), (by exact hN.snoc zo), (by exact hW.snoc (Nat.le_trans (xF _) zo))⟩⟩ [(6, 8)] (P := (kQ 0) ∧ (kQ 0) ∧ (kQ 0) ∧ ((((((1 + (kC (yI kS (kN l) 4) 3)) : Nat) : Int) - (((i2 + 1) : Nat) : Int)) : Int) = (((((1 + (kC (yI kS (kN l) 4) 3)) : Nat) : Int) - (i2 : Int)) - 1)) ∧ (([db (l6 (u9 l) (i2 + 1)) (ka1 (l6 (u9 l) (i2 + 1)))] : List D) = [db (kA (kR l i2) 7) (ka1 (kA (kR l i2) 7))]) ∧ (kY [iD 0, k9, k9, k9]) ∧ (kM y) ∧ (kY (dI .i64 (yW l))) ∧ (kQ (yZ (vX qT (qS l) 5) (vT qT (qS l) 5))) ∧ (kQ 0) ∧ (kQ (q + 1)) ∧ (kY (dI .i64 (y4 l))) ∧ (kQ (yZ (vX kS (kN l) 4) (vT kS (kN l) 4))) ∧ (kY (kW (ms ++ ([(uY (kR l i2))] : List (List Int)))))) zk ⟨rfl, rfl, rfl, zo, (by rfl), rfl, rfl, rfl, rfl, rfl, rfl, rfl, rfl, rfl⟩ (show 1 + kC (yI kS (kN l) 4) 3 - (i2 + 1) < 1 + kC (yI kS (kN l) 4) 3 - i2 from zo)
  ·refine kG [.no, .b false] (¬ ((0 : Int) < ((((1 + (kC (yI kS (kN l) 4) 3)) : Nat) : Int) - (i2 : Int)))) [(0, rV 0 0), (2, rV 1 0), (3, rV 2 0), (5, iV ((((1 + (kC (yI kS (kN l) 4) 3)) : Nat) : Int) - ↑i2)), (50, bV false)] [(0, some (78, .ds [db (kR l i2) (ka1 (kR l i2))])), (1, some (53, uQ)), (2, some (53, (vI y l q))), (6, some (55, .ds (kW ms)))] 7 zo ?_
   refine zf ?_
   refine AW.exit ?_
   refine kG [.no, .no] True [(2, rV 1 0)] [(0, some (78, .ds [db (kR l i2) (ka1 (kR l i2))])), (1, some (53, (vI y l q))), (6, some (55, .ds (kW ms)))] 7 trivial ?_
   obtain rfl : i2 = (1 + (kC (yI kS (kN l) 4) 3)) := (by omega)
   refine AW.freeze 6 (l' := [(2, rV 1 0)]) (g' := [(0, some (78, .ds [db (l6 (u9 l) (1 + (kC (yI kS (kN l) 4) 3))) (ka1 (l6 (u9 l) (1 + (kC (yI kS (kN l) 4) 3))))])), (1, some (53, .ds [iD y, dl (yW l) (yZ (vX qT (qS l) 5) (vT qT (qS l) 5)), D.sl (kW ms) q, dl (y4 l) (yZ (vX kS (kN l) 4) (vT kS (kN l) 4))]))]) rfl (FzS.cons rfl (.same _) FzS.nil) (qF rfl rfl (FzG.to (bc := .cs [iC y, .d (dl (yW l) (yZ (vX qT (qS l) 5) (vT qT (qS l) 5))), .own 6 0 q 1 true, .d (dl (y4 l) (yZ (vX kS (kN l) 4) (vT kS (kN l) 4)))]) rfl (by rfl) (FzL.cons (.same _) (FzL.cons (.same _) (FzL.cons (@FzC.own 6 ((kW ms) : List D) 0 q 1 true ((kW ms) : List D) (by rw [List.drop_zero, Nat.mul_one, kc3 (by (simp only [qA, k8, uF, ka4, kb3, kb6, kb4, kb9, kb8, kc4, kc8, kc6, Nat.mul_one] <;> omega))]) jF) (FzL.cons (.same _) FzL.nil)))) FzG.nil)) ?_
   have hz1 : tW l = y := hy
   have hz2 : iY l = ms := hm
   refine AW.ret ?_
   exact kB (.inr rfl) [] (P := (((tW l) : Int) = y) ∧ (((dI .i64 (tV l)) : List D) = (dI .i64 (yW l))) ∧ (((rU l) : Nat) = (yZ (vX qT (qS l) 5) (vT qT (qS l) 5))) ∧ (((kW (iY l)) : List D) = (kW ms)) ∧ (((ka1 (iY l)) : Nat) = q) ∧ (((dI .i64 (tU l)) : List D) = (dI .i64 (y4 l))) ∧ (((rT l) : Nat) = (yZ (vX kS (kN l) 4) (vT kS (kN l) 4))) ∧ (([db (boD l) (ka1 (boD l))] : List D) = [db (l6 (u9 l) (1 + (kC (yI kS (kN l) 4) 3))) (ka1 (l6 (u9 l) (1 + (kC (yI kS (kN l) 4) 3))))])) zk ⟨(by exact hz1), (by rfl), (by rfl), (by (rw [hz2]; done)), (by (rw [hz2]; omega)), (by rfl), (by rfl), (by rfl)⟩
end Go.Proofs.YtdbjebdomdnbkaaGreat
