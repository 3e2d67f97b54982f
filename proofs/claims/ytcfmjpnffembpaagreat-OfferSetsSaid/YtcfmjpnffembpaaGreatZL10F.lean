/- Boxes out of dice. No statement is proved here. -/
import Derived.Test.YtcfmjpnffembpaaGreatZL10E
namespace Go.Proofs.YtcfmjpnffembpaaGreat
open Go.ChangeShapes Go.WideShapes Go.ChangeAt Go.RowKit
open List renaming drop → ka3, getD → ka1, getD_eq_getElem?_getD → ka8, getElem?_eq_getElem → ka7, length → ka0, length_append → ka9, length_cons → kb0, length_drop → kb5, length_map → kc0, length_nil → kb3, length_replicate → kb4, length_reverse → kb9, length_set → kc1, length_take → kb2, take → ka5, take_of_length_le → kb6
set_option linter.unusedVariables false
set_option linter.unusedSimpArgs false
set_option maxHeartbeats 4000000
set_option maxRecDepth 100000
theorem k7x (xs : List (List Int)) (i : Nat) (h : i < xs.length) : (kL xs)[i]? = some (D.sl (dI .i64 (ka1 xs i [])) (ka1 xs i []).length) := by
 have := yE xs i h
 rw [List.getElem?_drop, Nat.add_zero] at this; exact this
def kbV (l : List Int) : Int := IntKind.i64.wrap (1 * (((2 ^ (1 + (kA l 7))) : Nat) : Int))
def orI (a b : Int) : Int := qI .or .i64 a b
def d7 (l : List Int) : Nat → List Int
 | 0 => l
 | i + 1 => kD (d7 l i) 7
def knK (l : List Int) (k : Int) : Nat → Int
 | 0 => k
 | i + 1 => orI (knK l k i) (kbV (d7 l i))
theorem bJ {l : List Int} (h : Byt l) : ∀ i, Byt (d7 l i)
 | 0 => h
 | i + 1 => qL _ (bJ h i)
def thE (x m : List Int) : Bool := decide (ka0 x = ka0 m ∧ ka1 x 0 0 = ka1 m 0 0)
def pS (ms : List (List Int)) (m : List Int) : Bool := ms.any fun x => thE x m
theorem u7b (ms : List (List Int)) (m : List Int) : pS (ka5 0 ms) m = false := rfl
theorem pR {ms : List (List Int)} {m : List Int} {j : Nat} (h : j < ms.length) : pS (ka5 (j + 1) ms) m = (pS (ka5 j ms) m || thE (ka1 ms j []) m) := by
 unfold pS
 rw [ka8, ka7 h, List.take_succ_eq_append_getElem h, List.any_append]
 simp
theorem u79 {ms : List (List Int)} {m : List Int} {j : Nat} (h : j < ms.length) (h1 : pS (ka5 j ms) m = true) : pS (ka5 (j + 1) ms) m = true := by
 rw [pR h, h1]; rfl
theorem u7a {ms : List (List Int)} {m : List Int} {j : Nat} (h : j < ms.length) (h1 : ka0 (ka1 ms j []) = ka0 m ∧ ka1 (ka1 ms j []) 0 0 = ka1 m 0 0) : pS (ka5 (j + 1) ms) m = true := by
 rw [pR h, show thE (ka1 ms j []) m = true from decide_eq_true h1, Bool.or_true]
theorem u3r {ms : List (List Int)} {m : List Int} {j : Nat} (h : j < ms.length) (h0 : pS (ka5 j ms) m = false) (h1 : ¬ (ka0 (ka1 ms j []) = ka0 m ∧ ka1 (ka1 ms j []) 0 0 = ka1 m 0 0)) : pS (ka5 (j + 1) ms) m = false := by
 rw [pR h, h0, show thE (ka1 ms j []) m = false from decide_eq_false h1]; rfl
def nX (l : List Int) : Nat → List Int
 | 0 => l
 | i + 1 => kD (nX l i) 7
def xB (l : List Int) : Nat → List (List Int)
 | 0 => []
 | i + 1 => if pS (xB l i) (yH (nX l i)) = true then xB l i else xB l i ++ [yH (nX l i)]
theorem lT {l : List Int} (h : Byt l) : ∀ i, Byt (nX l i)
 | 0 => h
 | i + 1 => qL _ (lT h i)
theorem u8a {l : List Int} {i : Nat} {ms : List (List Int)} (h : xB l i = ms) (h1 : pS ms (yH (nX l i)) = true) : xB l (i + 1) = ms := by
 subst h; exact if_pos h1
theorem u8b {l : List Int} {i : Nat} {ms : List (List Int)} (h : xB l i = ms) (h1 : pS ms (yH (nX l i)) = false) : xB l (i + 1) = ms ++ [yH (nX l i)] := by
 subst h; exact if_neg (by rw [h1]; decide)
theorem u8i {l : List Int} {k : Int} {i : Nat} {y x : Int} (h : knK l k i = y) (hx : x = orI y (kbV (d7 l i))) : knK l k (i + 1) = x := by
 subst h; rw [hx]; rfl
theorem k35 {ms : List (List Int)} {m : List Int} {j c : Nat} {f : Bool} (hc : ms.length = c) (hj : c ≤ j) (h : pS (ka5 j ms) m = f) : pS ms m = f := by
 rw [kb6 (by omega)] at h; exact h
theorem k4a (l : List Int) : ∀ i, MsW (xB l i)
 | 0 => MsW.nil
 | i + 1 => by
  rw [xB]; split
  ·exact k4a l i
  ·exact (k4a l i).snoc (Nat.le_trans (zH _) (by omega))
theorem k49 (l : List Int) : ∀ i, ka0 (xB l i) ≤ i
 | 0 => Nat.le_refl _
 | i + 1 => by
  have := k49 l i
  rw [xB]; split
  ·omega
  ·rw [ka9, List.length_singleton]; omega
def bo1 (l : List Int) : List Int := kD (kD l 7) 3
def bo2 (l : List Int) : List Int := d7 (bo1 l) (kA (kD l 7) 3)
def rtT : List Int := [44100, 44100, 48000, 48000, 8000, 8000, 32000, 50000, 96000, 192000]
def szT : List Int := [16, 64, 64, 1024, 2048, 2048, 1, 65536]
def bo3 (l : List Int) : List Int := y8 rtT (bo2 l) 5
def bo4 (l : List Int) : List Int := y8 szT (bo3 l) 4
def bo5 (l : List Int) : List Int := kD (bo4 l) 3
def boN (l : List Int) : Nat := 1 + kA (bo4 l) 3
def boD (l : List Int) : List Int := nX (bo5 l) (boN l)
def boK (l : List Int) : Int := knK (bo1 l) (kbV l) (kA (kD l 7) 3)
def z3 (l : List Int) : List Int := fP (bB rtT (bo2 l) 5) (bE rtT (bo2 l) 5)
def xF (l : List Int) : Nat := vY (bB rtT (bo2 l) 5) (bE rtT (bo2 l) 5)
def z0 (l : List Int) : List Int := fP (bB szT (bo3 l) 4) (bE szT (bo3 l) 4)
def xE (l : List Int) : Nat := vY (bB szT (bo3 l) 4) (bE szT (bo3 l) 4)
def nB (l : List Int) : List (List Int) := xB (bo5 l) (boN l)
def MsN (xs : List (List Int)) : Prop := ∀ l ∈ xs, 1 ≤ ka0 l
theorem MsN.nil : MsN [] := fun l h => by cases h
theorem MsN.snoc {xs : List (List Int)} {l : List Int} (h : MsN xs) (hl : 1 ≤ ka0 l) : MsN (xs ++ [l]) := fun m hm => (List.mem_append.1 hm).elim (h m) fun hm => by
 rw [List.mem_singleton.1 hm]; exact hl
theorem MsN.at {xs : List (List Int)} (h : MsN xs) {i : Nat} (hi : i < xs.length) : 1 ≤ ka0 (ka1 xs i []) := by
 rw [ka8, ka7 hi]; exact h _ (List.getElem_mem hi)
attribute [local irreducible] bB y8 bE fP vY kA kD yH pS
abbrev q5 := ([44100, 44100, 48000, 48000, 8000, 8000, 32000, 50000, 96000, 192000] : List Int)
abbrev qZ (l : List Int) := d7 (kD (kD l 7) 3) (kA (kD l 7) 3)
abbrev kS (l : List Int) := y8 q5 (qZ l) 5
abbrev kW := ([16, 64, 64, 1024, 2048, 2048, 1, 65536] : List Int)
abbrev yO (l : List Int) := kD (y8 kW (kS l) 4) 3
abbrev kV (l : List Int) (i2 : Nat) := nX (yO l) i2
abbrev vL (l : List Int) := fP (bB q5 (qZ l) 5) (bE q5 (qZ l) 5)
abbrev vU (l : List Int) := fP (bB kW (kS l) 4) (bE kW (kS l) 4)
theorem l7 {p : Prop} (h : p := by (simp only [qH, qE, uA, ka9, kb0, kb3, kb2, kb5, kb4, kc1, kc0, kb9, Nat.mul_one] <;> omega)) : p := h
abbrev aG (y : Int) (l : List Int) (q : Nat) : BC := .cs [iC y, .d (D.sl (dI .i64 (vL l)) (vY (bB q5 (qZ l) 5) (bE q5 (qZ l) 5))), .own 6 0 q 1 true, .d (D.sl (dI .i64 (vU l)) (vY (bB kW (kS l) 4) (bE kW (kS l) 4)))]
abbrev u1 : BC := .ds [iD 0, D.lit (.slice none 0 0), D.lit (.slice none 0 0), D.lit (.slice none 0 0)]
abbrev v5 (l : List Int) (i2 : Nat) : BC := .ds [D.sl (dI .u8 (kD (kV l i2) 7)) (ka0 (kD (kV l i2) 7))]
abbrev lR (l : List Int) (i : Nat) : BC := .ds [D.sl (dI .u8 (d7 (kD (kD l 7) 3) i)) (ka0 (d7 (kD (kD l 7) 3) i))]
abbrev lQ (y : Int) : BC := .ds [iD y, D.lit (.slice none 0 0), D.lit (.slice none 0 0), D.lit (.slice none 0 0)]
theorem u74 (l : List Int) (hb : Byt l) : Fun 79 [.c (.ptr 0 0)] (kE [(0, some (95, .ds [D.sl (dI .u8 l) (ka0 l)]))]) 1 (.e (.agg [iC (boK l), .d (D.sl (dI .i64 (z3 l)) (xF l)), .d (D.sl (kL (nB l)) (ka0 (nB l))), .d (D.sl (dI .i64 (z0 l)) (xE l))])) (kE [(0, some (95, .ds [D.sl (dI .u8 (boD l)) (ka0 (boD l))]))]) 1 := by
 refine Fun.mk (n := 89) Tryz.func79 rfl rfl (Nat.le_of_ble_eq_true rfl) ?_
 intro cx hcx
 refine kI [.no] True [(0, rV 0 0), (2, rV 1 0)] [(0, some (95, .ds [db l (ka0 l)])), (1, some (59, u1))] 2 trivial ?_
 have hx1 : ((((((kA l 7) : Nat) : Int) < 7) ∨ ((kA l 7) = 0)) ∧ ((kA l 7) ≤ 255)) := uG l (7 : Int) (kZ : Byt l)
 have hx2 : (Byt (kD l 7)) := qL (7 : Int) (kZ : Byt l)
 refine kI [.no, .call [0] (uV (kA l 7)) [(0, some (95, .ds [db (kD l 7) (ka0 (kD l 7))]))] 1 [] none, .w, .n2 (1 + (kA l 7)) 0, .no, .no, .no] ((_) ∧ (uZ (1 + (kA l 7 : Int))) ∧ (((1 + (kA l 7 : Int)) : Int) = (((1 + (kA l 7)) : Nat) : Int)) ∧ ((1 + (kA l 7)) ≤ 64)) [(0, rV 0 0), (2, rV 1 0), (3, rV 2 0)] [(0, some (95, .ds [db (kD l 7) (ka0 (kD l 7))])), (1, some (59, u1)), (2, some (59, .ds [iD (IntKind.i64.wrap (1 * (((2 ^ (1 + (kA l 7))) : Nat) : Int))), qR, qR, qR]))] 3 ⟨(uQ l 7 (kZ : Byt l)), ⟨by omega, by omega⟩, (by rfl), zo⟩ ?_
 refine AW.seq ?_
 have hx3 : ((((((kA (kD l 7) 3) : Nat) : Int) < 3) ∨ ((kA (kD l 7) 3) = 0)) ∧ ((kA (kD l 7) 3) ≤ 255)) := uG (kD l 7) (3 : Int) (kZ : Byt (kD l 7))
 have hx4 : (Byt (kD (kD l 7) 3)) := qL (3 : Int) (kZ : Byt (kD l 7))
 refine kI [.no, .call [0] (uV (kA (kD l 7) 3)) [(0, some (95, .ds [db (kD (kD l 7) 3) (ka0 (kD (kD l 7) 3))]))] 1 [] none, .no] _ [(0, rV 0 0), (2, rV 1 0), (3, rV 2 0), (4, uV (kA (kD l 7) 3))] [(0, some (95, .ds [db (kD (kD l 7) 3) (ka0 (kD (kD l 7) 3))])), (1, some (59, u1)), (2, some (59, .ds [iD (IntKind.i64.wrap (1 * (((2 ^ (1 + (kA l 7))) : Nat) : Int))), qR, qR, qR]))] 3 (uQ (kD l 7) 3 (kZ : Byt (kD l 7))) ?_
 refine AW.block ?_
 refine kU 1 hcx (fun (x : {x : Nat × Int // match x with | (i, y) => (i ≤ kA (kD l 7) 3) ∧ (knK (kD (kD l 7) 3) (kbV l) i = y)}) => match x with | ⟨(i, y), _⟩ => (⟨[(0, rV 0 0), (2, rV 1 0), (3, rV 2 0), (4, iV ((kA (kD l 7) 3 : Int) - (i : Int)))], [(0, some (95, (lR l i))), (1, some (59, u1)), (2, some (59, (lQ y)))], 3⟩ : ES)) (fun x => match x with | ⟨(i, y), _⟩ => kA (kD l 7) 3 - i) ⟨((0 : Nat), ((IntKind.i64.wrap (1 * (((2 ^ (1 + (kA l 7))) : Nat) : Int))) : Int)), ⟨zo, rfl⟩⟩ [] (P := (kG 0) ∧ (kG 0) ∧ (kG 0) ∧ ((((kA (kD l 7) 3 : Int) - 0) : Int) = (kA (kD l 7) 3 : Int)) ∧ (([db (d7 (kD (kD l 7) 3) 0) (ka0 (d7 (kD (kD l 7) 3) 0))] : List D) = [db (kD (kD l 7) 3) (ka0 (kD (kD l 7) 3))]) ∧ (kJ [iD 0, qR, qR, qR]) ∧ (kJ [iD (IntKind.i64.wrap (1 * (((2 ^ (1 + (kA l 7))) : Nat) : Int))), qR, qR, qR])) zk ⟨rfl, rfl, rfl, (by rfl), (by rfl), rfl, rfl⟩ ?_
 rintro ⟨⟨i, y⟩, hinv0⟩
 obtain ⟨hi, hy⟩ : (i ≤ kA (kD l 7) 3) ∧ (knK (kD (kD l 7) 3) (kbV l) i = y) := hinv0
 refine qN (l := [(0, rV 0 0), (2, rV 1 0), (3, rV 2 0), (4, iV ((kA (kD l 7) 3 : Int) - (i : Int)))]) (g := [(0, some (95, (lR l i))), (1, some (59, u1)), (2, some (59, (lQ y)))]) (nx := 3) rfl rfl rfl ?_
 refine AW.seq ?_
 by_cases hx5 : ((0 : Int) < ((((kA (kD l 7) 3) : Nat) : Int) - ((i : Nat) : Int)))
 ·refine kI [.no, .b true] (((0 : Int) < ((kA (kD l 7) 3 : Int) - (i : Int)))) [(0, rV 0 0), (2, rV 1 0), (3, rV 2 0), (4, iV ((kA (kD l 7) 3 : Int) - ↑i)), (18, bV true)] [(0, some (95, (lR l i))), (1, some (59, u1)), (2, some (59, (lQ y)))] 3 zo ?_
  refine yW ?_
  refine AW.seq ?_
  refine AW.block ?_
  have hx6 : ((((((kA (d7 (kD (kD l 7) 3) i) 7) : Nat) : Int) < 7) ∨ ((kA (d7 (kD (kD l 7) 3) i) 7) = 0)) ∧ ((kA (d7 (kD (kD l 7) 3) i) 7) ≤ 255)) := uG (d7 (kD (kD l 7) 3) i) (7 : Int) ((bJ (kZ : Byt (kD (kD l 7) 3)) _))
  have hx7 : (Byt (kD (d7 (kD (kD l 7) 3) i) 7)) := qL (7 : Int) ((bJ (kZ : Byt (kD (kD l 7) 3)) _))
  refine aD [.no, .no, .no, .call [0] (iV (kA (d7 (kD (kD l 7) 3) i) 7 : Int)) [(0, some (95, .ds [db (kD (d7 (kD (kD l 7) 3) i) 7) (ka0 (kD (d7 (kD (kD l 7) 3) i) 7))]))] 1 [] none, .w, .n2 (1 + (kA (d7 (kD (kD l 7) 3) i) 7)) 0, .i (orI y (IntKind.i64.wrap (1 * (((2 ^ (1 + (kA (d7 (kD (kD l 7) 3) i) 7))) : Nat) : Int)))), .no, .no] ((_) ∧ ((-9223372036854775808) ≤ (1 + (kA (d7 (kD (kD l 7) 3) i) 7 : Int)) ∧ (1 + (kA (d7 (kD (kD l 7) 3) i) 7 : Int)) ≤ 9223372036854775807) ∧ (((1 + (kA (d7 (kD (kD l 7) 3) i) 7 : Int)) : Int) = (((1 + (kA (d7 (kD (kD l 7) 3) i) 7)) : Nat) : Int)) ∧ ((1 + (kA (d7 (kD (kD l 7) 3) i) 7)) ≤ 64) ∧ (qI .or .i64 y (IntKind.i64.wrap (1 * (((2 ^ (1 + (kA (d7 (kD (kD l 7) 3) i) 7))) : Nat) : Int))) = (orI y (IntKind.i64.wrap (1 * (((2 ^ (1 + (kA (d7 (kD (kD l 7) 3) i) 7))) : Nat) : Int)))))) [(0, rV 0 0), (2, rV 1 0), (3, rV 2 0), (4, iV ((kA (kD l 7) 3 : Int) - ↑i))] [(0, some (95, .ds [db (kD (d7 (kD (kD l 7) 3) i) 7) (ka0 (kD (d7 (kD (kD l 7) 3) i) 7))])), (1, some (59, u1)), (2, some (59, .ds [iD (orI y (IntKind.i64.wrap (1 * (((2 ^ (1 + (kA (d7 (kD (kD l 7) 3) i) 7))) : Nat) : Int)))), qR, qR, qR]))] 3 ⟨(uQ (d7 (kD (kD l 7) 3) i) 7 (bJ (kZ : Byt (kD (kD l 7) 3)) _)), ⟨by omega, by omega⟩, (by rfl), zo, rfl⟩ ?_
  refine uJ [.no, .w, .no] (uZ (((kA (kD l 7) 3 : Int) - (i : Int)) - 1)) [(0, rV 0 0), (2, rV 1 0), (3, rV 2 0), (4, iV (((kA (kD l 7) 3 : Int) - ↑i) - 1))] ⟨by omega, by omega⟩ ?_
  exact kX ⟨(((i + 1) : Nat), ((orI y (IntKind.i64.wrap (1 * (((2 ^ (1 + (kA (d7 (kD (kD l 7) 3) i) 7))) : Nat) : Int)))) : Int)), ⟨zo, (u8i hy rfl)⟩⟩ [] (P := (kG 0) ∧ (kG 0) ∧ (kG 0) ∧ ((((kA (kD l 7) 3 : Int) - (((i + 1) : Nat) : Int)) : Int) = (((kA (kD l 7) 3 : Int) - (i : Int)) - 1)) ∧ (([db (d7 (kD (kD l 7) 3) (i + 1)) (ka0 (d7 (kD (kD l 7) 3) (i + 1)))] : List D) = [db (kD (d7 (kD (kD l 7) 3) i) 7) (ka0 (kD (d7 (kD (kD l 7) 3) i) 7))]) ∧ (kJ [iD 0, qR, qR, qR]) ∧ (kJ [iD (orI y (IntKind.i64.wrap (1 * (((2 ^ (1 + (kA (d7 (kD (kD l 7) 3) i) 7))) : Nat) : Int)))), qR, qR, qR])) zk ⟨rfl, rfl, rfl, zo, (by rfl), rfl, rfl⟩ (show kA (kD l 7) 3 - (i + 1) < kA (kD l 7) 3 - i from zo)
 ·refine kI [.no, .b false] (¬ ((0 : Int) < ((kA (kD l 7) 3 : Int) - (i : Int)))) [(0, rV 0 0), (2, rV 1 0), (3, rV 2 0), (4, iV ((kA (kD l 7) 3 : Int) - ↑i)), (18, bV false)] [(0, some (95, (lR l i))), (1, some (59, u1)), (2, some (59, (lQ y)))] 3 zo ?_
  refine zf ?_
  refine AW.exit ?_
  obtain rfl : i = (kA (kD l 7) 3) := (by omega)
  refine kI (kT 6 [(.fz (.no)), .call [0] (.e (.agg [.d (dl (vL l) (vY (bB q5 (qZ l) 5) (bE q5 (qZ l) 5)))])) [(0, some (95, .ds [db (kS l) (ka0 (kS l))]))] 1 [] none, .no, .no]) ((([iD 44100, iD 44100, iD 48000, iD 48000, iD 8000, iD 8000, iD 32000, iD 50000, iD 96000, iD 192000] : List D).length = 5 * 2) ∧ (_)) [(0, rV 0 0), (2, rV 1 0), (3, rV 2 0)] [(0, some (95, .ds [db (kS l) (ka0 (kS l))])), (1, some (59, u1)), (2, some (59, .ds [iD y, dl (vL l) (vY (bB q5 (qZ l) 5) (bE q5 (qZ l) 5)), qR, qR]))] 4 ⟨l7, (u17 q5 5 (qZ l) (by (simp only [qH, qE, ka9, kb0, kb3, kb2, kb5, kb4, kc1] <;> omega)) zo zo (bJ (kZ : Byt (kD (kD l 7) 3)) _))⟩ ?_
  refine kI (kT 5 [(.fz (.no)), .call [0] (.e (.agg [.d (dl (vU l) (vY (bB kW (kS l) 4) (bE kW (kS l) 4)))])) [(0, some (95, .ds [db (y8 kW (kS l) 4) (ka0 (y8 kW (kS l) 4))]))] 1 [] none, .no, .no]) ((([iD 16, iD 64, iD 64, iD 1024, iD 2048, iD 2048, iD 1, iD 65536] : List D).length = 4 * 2) ∧ (_)) [(0, rV 0 0), (2, rV 1 0), (3, rV 2 0)] [(0, some (95, .ds [db (y8 kW (kS l) 4) (ka0 (y8 kW (kS l) 4))])), (1, some (59, u1)), (2, some (59, .ds [iD y, dl (vL l) (vY (bB q5 (qZ l) 5) (bE q5 (qZ l) 5)), qR, dl (vU l) (vY (bB kW (kS l) 4) (bE kW (kS l) 4))]))] 5 ⟨l7, (u17 kW 4 (kS l) (by (simp only [qH, qE, ka9, kb0, kb3, kb2, kb5, kb4, kc1] <;> omega)) zo zo (bZ (bJ (kZ : Byt (kD (kD l 7) 3)) _)))⟩ ?_
  refine AW.seq ?_
  have hx8 : ((((((kA (y8 kW (kS l) 4) 3) : Nat) : Int) < 3) ∨ ((kA (y8 kW (kS l) 4) 3) = 0)) ∧ ((kA (y8 kW (kS l) 4) 3) ≤ 255)) := uG (y8 kW (kS l) 4) (3 : Int) ((bZ (bZ (bJ (kZ : Byt (kD (kD l 7) 3)) _))))
  have hx9 : (Byt (yO l)) := qL (3 : Int) ((bZ (bZ (bJ (kZ : Byt (kD (kD l 7) 3)) _))))
  refine kI [.no, .call [0] (uV (kA (y8 kW (kS l) 4) 3)) [(0, some (95, .ds [db (yO l) (ka0 (yO l))]))] 1 [] none, .w, .no] ((_) ∧ (uZ (1 + (kA (y8 kW (kS l) 4) 3 : Int)))) [(0, rV 0 0), (2, rV 1 0), (3, rV 2 0), (5, iV (1 + (kA (y8 kW (kS l) 4) 3 : Int)))] [(0, some (95, .ds [db (yO l) (ka0 (yO l))])), (1, some (59, u1)), (2, some (59, .ds [iD y, dl (vL l) (vY (bB q5 (qZ l) 5) (bE q5 (qZ l) 5)), qR, dl (vU l) (vY (bB kW (kS l) 4) (bE kW (kS l) 4))]))] 5 ⟨(uQ (y8 kW (kS l) 4) 3 (bZ (bZ (bJ (kZ : Byt (kD (kD l 7) 3)) _)))), ⟨by omega, by omega⟩⟩ ?_
  refine AW.block ?_
  refine pD 2 2 1 23 (cs' := [iC y, .d (dl (vL l) (vY (bB q5 (qZ l) 5) (bE q5 (qZ l) 5))), .own 5 0 0 1 true, .d (dl (vU l) (vY (bB kW (kS l) 4) (bE kW (kS l) 4)))]) rfl rfl rfl ?_
  refine kU 1 hcx (fun (x : {x : Nat × Nat × List (List Int) // match x with | (i2, q, ms) => (i2 ≤ 1 + kA (y8 kW (kS l) 4) 3) ∧ (xB (yO l) i2 = ms) ∧ (ka0 ms = q ∧ q ≤ i2) ∧ (MsN ms) ∧ (MsW ms)}) => match x with | ⟨(i2, q, ms), _⟩ => (⟨[(0, rV 0 0), (2, rV 1 0), (3, rV 2 0), (5, iV ((((1 + (kA (y8 kW (kS l) 4) 3)) : Nat) : Int) - (i2 : Int)))], [(0, some (95, .ds [db (kV l i2) (ka0 (kV l i2))])), (1, some (59, u1)), (2, some (59, (aG y l q))), (6, some (23, .ds (kL ms)))], 7⟩ : ES)) (fun x => match x with | ⟨(i2, q, ms), _⟩ => 1 + kA (y8 kW (kS l) 4) 3 - i2) ⟨((0 : Nat), (0 : Nat), (([] : List (List Int)) : List (List Int))), ⟨zo, rfl, ⟨rfl, by omega⟩, MsN.nil, MsW.nil⟩⟩ [(6, 5)] (P := (kG 0) ∧ (kG 0) ∧ (kG 0) ∧ ((((((1 + (kA (y8 kW (kS l) 4) 3)) : Nat) : Int) - 0) : Int) = (1 + (kA (y8 kW (kS l) 4) 3 : Int))) ∧ (([db (nX (yO l) 0) (ka0 (nX (yO l) 0))] : List D) = [db (yO l) (ka0 (yO l))]) ∧ (kJ [iD 0, qR, qR, qR]) ∧ (kM y) ∧ (kJ (dI .i64 (vL l))) ∧ (kG (vY (bB q5 (qZ l) 5) (bE q5 (qZ l) 5))) ∧ (kG 0) ∧ (kG 0) ∧ (kJ (dI .i64 (vU l))) ∧ (kG (vY (bB kW (kS l) 4) (bE kW (kS l) 4))) ∧ (((kL ([] : List (List Int))) : List D) = ([] : List D))) zk ⟨rfl, rfl, rfl, (by rfl), (by rfl), rfl, rfl, rfl, rfl, rfl, rfl, rfl, rfl, (by rfl)⟩ ?_
  rintro ⟨⟨i2, q, ms⟩, hinv1⟩
  obtain ⟨hi2, hm, hq, hN, hW⟩ : (i2 ≤ 1 + kA (y8 kW (kS l) 4) 3) ∧ (xB (yO l) i2 = ms) ∧ (ka0 ms = q ∧ q ≤ i2) ∧ (MsN ms) ∧ (MsW ms) := hinv1
  refine qN (l := [(0, rV 0 0), (2, rV 1 0), (3, rV 2 0), (5, iV ((((1 + (kA (y8 kW (kS l) 4) 3)) : Nat) : Int) - (i2 : Int)))]) (g := [(0, some (95, .ds [db (kV l i2) (ka0 (kV l i2))])), (1, some (59, u1)), (2, some (59, (aG y l q))), (6, some (23, .ds (kL ms)))]) (nx := 7) rfl rfl rfl ?_
  refine AW.seq ?_
  by_cases hx10 : ((0 : Int) < ((((1 + (kA (y8 kW (kS l) 4) 3)) : Nat) : Int) - ((i2 : Nat) : Int)))
  ·refine kI [.no, .b true] (((0 : Int) < ((((1 + (kA (y8 kW (kS l) 4) 3)) : Nat) : Int) - (i2 : Int)))) [(0, rV 0 0), (2, rV 1 0), (3, rV 2 0), (5, iV ((((1 + (kA (y8 kW (kS l) 4) 3)) : Nat) : Int) - ↑i2)), (50, bV true)] [(0, some (95, .ds [db (kV l i2) (ka0 (kV l i2))])), (1, some (59, u1)), (2, some (59, (aG y l q))), (6, some (23, .ds (kL ms)))] 7 zo ?_
   refine yW ?_
   refine AW.seq ?_
   refine AW.block ?_
   have hx11 : (((1 : Nat) ≤ (ka0 (yH (kV l i2)))) ∧ ((ka0 (yH (kV l i2))) ≤ 6)) := (k0r ((lT (kZ : Byt (yO l)) _)))
   refine kI [.no, .call [0] (sV .i64 (yH (kV l i2)) (ka0 (yH (kV l i2)))) [(0, some (95, (v5 l i2)))] 1 [] none, .no] _ [(0, rV 0 0), (2, rV 1 0), (3, rV 2 0), (5, iV ((((1 + (kA (y8 kW (kS l) 4) 3)) : Nat) : Int) - ↑i2)), (6, sV .i64 (yH (kV l i2)) (ka0 (yH (kV l i2))))] [(0, some (95, (v5 l i2))), (1, some (59, u1)), (2, some (59, (aG y l q))), (6, some (23, .ds (kL ms)))] 7 (u18 (kV l i2) (lT (kZ : Byt (yO l)) _)) ?_
   refine kN [.no] True [(0, rV 0 0), (2, rV 1 0), (3, rV 2 0), (5, iV ((((1 + (kA (y8 kW (kS l) 4) 3)) : Nat) : Int) - ↑i2)), (6, sV .i64 (yH (kV l i2)) (ka0 (yH (kV l i2)))), (7, bV false)] trivial ?_
   refine AW.seq ?_
   refine kN (kT 4 []) True [(0, rV 0 0), (2, rV 1 0), (3, rV 2 0), (5, iV ((((1 + (kA (y8 kW (kS l) 4) 3)) : Nat) : Int) - ↑i2)), (6, sV .i64 (yH (kV l i2)) (ka0 (yH (kV l i2)))), (7, bV false), (56, oV 6 0 q 1), (57, uV q), (58, iV 0)] trivial ?_
   refine AW.block ?_
   refine kU 1 hcx (fun (x : {x : Nat × Bool // match x with | (j, f) => (j ≤ q) ∧ (pS (ka5 j ms) (yH (kV l i2)) = f)}) => match x with | ⟨(j, f), _⟩ => (⟨[(0, rV 0 0), (2, rV 1 0), (3, rV 2 0), (5, iV ((((1 + (kA (y8 kW (kS l) 4) 3)) : Nat) : Int) - (i2 : Int))), (6, sV .i64 (yH (kV l i2)) (ka0 (yH (kV l i2)))), (7, qS (D.lit (.bool (f)))), (56, oV 6 0 q 1), (57, uV q), (58, uV j)], [(0, some (95, (v5 l i2))), (1, some (59, u1)), (2, some (59, (aG y l q))), (6, some (23, .ds (kL ms)))], 7⟩ : ES)) (fun x => match x with | ⟨(j, f), _⟩ => q - j) ⟨((0 : Nat), (false : Bool)), ⟨zo, (u7b _ _)⟩⟩ [] (P := (kG 0) ∧ (kG 0) ∧ (kG 0) ∧ (kM ((((1 + (kA (y8 kW (kS l) 4) 3)) : Nat) : Int) - (i2 : Int))) ∧ (kJ (dI .i64 (yH (kV l i2)))) ∧ (kG (ka0 (yH (kV l i2)))) ∧ ((false) = false) ∧ (kG 0) ∧ (kG q) ∧ (kM (q : Int)) ∧ (kM 0) ∧ (kJ [db (kD (kV l i2) 7) (ka0 (kD (kV l i2) 7))]) ∧ (kJ [iD 0, qR, qR, qR]) ∧ (kM y) ∧ (kJ (dI .i64 (vL l))) ∧ (kG (vY (bB q5 (qZ l) 5) (bE q5 (qZ l) 5))) ∧ (kG 0) ∧ (kG q) ∧ (kJ (dI .i64 (vU l))) ∧ (kG (vY (bB kW (kS l) 4) (bE kW (kS l) 4))) ∧ (kJ (kL ms))) zk ⟨rfl, rfl, rfl, rfl, rfl, rfl, (by rfl), rfl, rfl, rfl, rfl, rfl, rfl, rfl, rfl, rfl, rfl, rfl, rfl, rfl, rfl⟩ ?_
   rintro ⟨⟨j, f⟩, hinv2⟩
   obtain ⟨hj, hf⟩ : (j ≤ q) ∧ (pS (ka5 j ms) (yH (kV l i2)) = f) := hinv2
   refine qN (l := [(0, rV 0 0), (2, rV 1 0), (3, rV 2 0), (5, iV ((((1 + (kA (y8 kW (kS l) 4) 3)) : Nat) : Int) - (i2 : Int))), (6, sV .i64 (yH (kV l i2)) (ka0 (yH (kV l i2)))), (7, qS (D.lit (.bool (f)))), (56, oV 6 0 q 1), (57, uV q), (58, uV j)]) (g := [(0, some (95, (v5 l i2))), (1, some (59, u1)), (2, some (59, (aG y l q))), (6, some (23, .ds (kL ms)))]) (nx := 7) rfl rfl rfl ?_
   by_cases hx12 : (((j : Nat) : Int) < ((q : Nat) : Int))
   ·refine kI [.b true] (((j : Int) < (q : Int))) [(0, rV 0 0), (2, rV 1 0), (3, rV 2 0), (5, iV ((((1 + (kA (y8 kW (kS l) 4) 3)) : Nat) : Int) - ↑i2)), (6, sV .i64 (yH (kV l i2)) (ka0 (yH (kV l i2)))), (7, qS (D.lit (.bool (f)))), (56, oV 6 0 q 1), (57, uV q), (58, uV j), (59, bV true)] [(0, some (95, (v5 l i2))), (1, some (59, u1)), (2, some (59, (aG y l q))), (6, some (23, .ds (kL ms)))] 7 zo ?_
    refine AW.seq ?_
    refine yW ?_
    refine AW.seq ?_
    refine AW.block ?_
    have hx13 : ((ka0 (ka1 ms j ([] : List Int))) ≤ 1000000) := MsW.at (kZ : MsW ms) _
    refine kN [.n2 j j, .d (dl (ka1 ms j ([] : List Int)) (ka0 (ka1 ms j ([] : List Int)))), .no] ((kM (j : Int)) ∧ (j < q) ∧ ((0 : Nat) + j * 1 = j) ∧ ((kL ms)[j]? = some (dl (ka1 ms j ([] : List Int)) (ka0 (ka1 ms j ([] : List Int)))))) [(0, rV 0 0), (2, rV 1 0), (3, rV 2 0), (5, iV ((((1 + (kA (y8 kW (kS l) 4) 3)) : Nat) : Int) - ↑i2)), (6, sV .i64 (yH (kV l i2)) (ka0 (yH (kV l i2)))), (7, qS (D.lit (.bool (f)))), (9, sV .i64 (ka1 ms j ([] : List Int)) (ka0 (ka1 ms j ([] : List Int)))), (56, oV 6 0 q 1), (57, uV q), (58, uV j)] ⟨rfl, zo, zo, (k7x _ _ zo)⟩ ?_
    rcases Bool.eq_false_or_eq_true (f) with hx15 | hx15
    ·subst hx15
     have hx16 : 1 ≤ ka0 (ka1 ms j ([] : List Int)) := hN.at zo
     refine aD (kT 4 []) True [(0, rV 0 0), (2, rV 1 0), (3, rV 2 0), (5, iV ((((1 + (kA (y8 kW (kS l) 4) 3)) : Nat) : Int) - ↑i2)), (6, sV .i64 (yH (kV l i2)) (ka0 (yH (kV l i2)))), (7, bV true), (56, oV 6 0 q 1), (57, uV q), (58, uV j)] [(0, some (95, (v5 l i2))), (1, some (59, u1)), (2, some (59, (aG y l q))), (6, some (23, .ds (kL ms)))] 7 trivial ?_
     refine uJ [.w, .no] (uZ ((j : Int) + 1)) [(0, rV 0 0), (2, rV 1 0), (3, rV 2 0), (5, iV ((((1 + (kA (y8 kW (kS l) 4) 3)) : Nat) : Int) - ↑i2)), (6, sV .i64 (yH (kV l i2)) (ka0 (yH (kV l i2)))), (7, bV true), (56, oV 6 0 q 1), (57, uV q), (58, iV (↑j + 1))] ⟨by omega, by omega⟩ ?_
     exact kX ⟨(((j + 1) : Nat), (true : Bool)), ⟨zo, (by exact u79 zo hf)⟩⟩ [] (P := (kG 0) ∧ (kG 0) ∧ (kG 0) ∧ (kM ((((1 + (kA (y8 kW (kS l) 4) 3)) : Nat) : Int) - (i2 : Int))) ∧ (kJ (dI .i64 (yH (kV l i2)))) ∧ (kG (ka0 (yH (kV l i2)))) ∧ ((true) = true) ∧ (kG 0) ∧ (kG q) ∧ (kM (q : Int)) ∧ (vX j) ∧ (kJ [db (kD (kV l i2) 7) (ka0 (kD (kV l i2) 7))]) ∧ (kJ [iD 0, qR, qR, qR]) ∧ (kM y) ∧ (kJ (dI .i64 (vL l))) ∧ (kG (vY (bB q5 (qZ l) 5) (bE q5 (qZ l) 5))) ∧ (kG 0) ∧ (kG q) ∧ (kJ (dI .i64 (vU l))) ∧ (kG (vY (bB kW (kS l) 4) (bE kW (kS l) 4))) ∧ (kJ (kL ms))) zk ⟨rfl, rfl, rfl, rfl, rfl, rfl, (by rfl), rfl, rfl, rfl, (by rfl), rfl, rfl, rfl, rfl, rfl, rfl, rfl, rfl, rfl, rfl⟩ (show q - (j + 1) < q - j from zo)
    ·subst hx15
     by_cases hx18 : ((((ka0 (ka1 ms j ([] : List Int))) : Nat) : Int) = (((ka0 (yH (kV l i2))) : Nat) : Int))
     ·by_cases hx20 : ((ka1 (ka1 ms j ([] : List Int)) 0 0) = (ka1 (yH (kV l i2)) 0 0))
      ·have hx21 : 1 ≤ ka0 (ka1 ms j ([] : List Int)) := hN.at zo
       refine aD (kT 6 [.b true, .no, .no, .n 0, .d (D.lit (.int .i64 (ka1 (ka1 ms j ([] : List Int)) 0 0))), .no, .n 0, .d (D.lit (.int .i64 (ka1 (yH (kV l i2)) 0 0))), .b true, .no, .no, .no]) ((((((ka0 (ka1 ms j ([] : List Int))) : Nat) : Int) = (ka0 (yH (kV l i2)) : Int))) ∧ (kM 0) ∧ ((0 : Nat) < (ka0 (ka1 ms j ([] : List Int)))) ∧ ((ka3 0 (dI .i64 (ka1 ms j ([] : List Int))))[0]? = some (D.lit (.int .i64 (ka1 (ka1 ms j ([] : List Int)) 0 0)))) ∧ (kM 0) ∧ ((0 : Nat) < (ka0 (yH (kV l i2)))) ∧ ((ka3 0 (dI .i64 (yH (kV l i2))))[0]? = some (D.lit (.int .i64 (ka1 (yH (kV l i2)) 0 0)))) ∧ (((ka1 (ka1 ms j ([] : List Int)) 0 0) = (ka1 (yH (kV l i2)) 0 0)))) [(0, rV 0 0), (2, rV 1 0), (3, rV 2 0), (5, iV ((((1 + (kA (y8 kW (kS l) 4) 3)) : Nat) : Int) - ↑i2)), (6, sV .i64 (yH (kV l i2)) (ka0 (yH (kV l i2)))), (7, bV true), (56, oV 6 0 q 1), (57, uV q), (58, uV j)] [(0, some (95, (v5 l i2))), (1, some (59, u1)), (2, some (59, (aG y l q))), (6, some (23, .ds (kL ms)))] 7 ⟨zo, rfl, zo, (uI _ _ _ zo), rfl, zo, (uI _ _ _ zo), zo⟩ ?_
       refine uJ [.w, .no] (uZ ((j : Int) + 1)) [(0, rV 0 0), (2, rV 1 0), (3, rV 2 0), (5, iV ((((1 + (kA (y8 kW (kS l) 4) 3)) : Nat) : Int) - ↑i2)), (6, sV .i64 (yH (kV l i2)) (ka0 (yH (kV l i2)))), (7, bV true), (56, oV 6 0 q 1), (57, uV q), (58, iV (↑j + 1))] ⟨by omega, by omega⟩ ?_
       exact kX ⟨(((j + 1) : Nat), (true : Bool)), ⟨zo, (by exact u7a zo zo)⟩⟩ [] (P := (kG 0) ∧ (kG 0) ∧ (kG 0) ∧ (kM ((((1 + (kA (y8 kW (kS l) 4) 3)) : Nat) : Int) - (i2 : Int))) ∧ (kJ (dI .i64 (yH (kV l i2)))) ∧ (kG (ka0 (yH (kV l i2)))) ∧ ((true) = true) ∧ (kG 0) ∧ (kG q) ∧ (kM (q : Int)) ∧ (vX j) ∧ (kJ [db (kD (kV l i2) 7) (ka0 (kD (kV l i2) 7))]) ∧ (kJ [iD 0, qR, qR, qR]) ∧ (kM y) ∧ (kJ (dI .i64 (vL l))) ∧ (kG (vY (bB q5 (qZ l) 5) (bE q5 (qZ l) 5))) ∧ (kG 0) ∧ (kG q) ∧ (kJ (dI .i64 (vU l))) ∧ (kG (vY (bB kW (kS l) 4) (bE kW (kS l) 4))) ∧ (kJ (kL ms))) zk ⟨rfl, rfl, rfl, rfl, rfl, rfl, (by rfl), rfl, rfl, rfl, (by rfl), rfl, rfl, rfl, rfl, rfl, rfl, rfl, rfl, rfl, rfl⟩ (show q - (j + 1) < q - j from zo)
      ·have hx22 : 1 ≤ ka0 (ka1 ms j ([] : List Int)) := hN.at zo
       refine aD (kT 6 [.b true, .no, .no, .n 0, .d (D.lit (.int .i64 (ka1 (ka1 ms j ([] : List Int)) 0 0))), .no, .n 0, .d (D.lit (.int .i64 (ka1 (yH (kV l i2)) 0 0))), .b false, .no, .no, .no]) ((((((ka0 (ka1 ms j ([] : List Int))) : Nat) : Int) = (ka0 (yH (kV l i2)) : Int))) ∧ (kM 0) ∧ ((0 : Nat) < (ka0 (ka1 ms j ([] : List Int)))) ∧ ((ka3 0 (dI .i64 (ka1 ms j ([] : List Int))))[0]? = some (D.lit (.int .i64 (ka1 (ka1 ms j ([] : List Int)) 0 0)))) ∧ (kM 0) ∧ ((0 : Nat) < (ka0 (yH (kV l i2)))) ∧ ((ka3 0 (dI .i64 (yH (kV l i2))))[0]? = some (D.lit (.int .i64 (ka1 (yH (kV l i2)) 0 0)))) ∧ (¬ ((ka1 (ka1 ms j ([] : List Int)) 0 0) = (ka1 (yH (kV l i2)) 0 0)))) [(0, rV 0 0), (2, rV 1 0), (3, rV 2 0), (5, iV ((((1 + (kA (y8 kW (kS l) 4) 3)) : Nat) : Int) - ↑i2)), (6, sV .i64 (yH (kV l i2)) (ka0 (yH (kV l i2)))), (7, bV false), (56, oV 6 0 q 1), (57, uV q), (58, uV j)] [(0, some (95, (v5 l i2))), (1, some (59, u1)), (2, some (59, (aG y l q))), (6, some (23, .ds (kL ms)))] 7 ⟨zo, rfl, zo, (uI _ _ _ zo), rfl, zo, (uI _ _ _ zo), zo⟩ ?_
       refine uJ [.w, .no] (uZ ((j : Int) + 1)) [(0, rV 0 0), (2, rV 1 0), (3, rV 2 0), (5, iV ((((1 + (kA (y8 kW (kS l) 4) 3)) : Nat) : Int) - ↑i2)), (6, sV .i64 (yH (kV l i2)) (ka0 (yH (kV l i2)))), (7, bV false), (56, oV 6 0 q 1), (57, uV q), (58, iV (↑j + 1))] ⟨by omega, by omega⟩ ?_
       exact kX ⟨(((j + 1) : Nat), (false : Bool)), ⟨zo, (by exact u3r zo hf zo)⟩⟩ [] (P := (kG 0) ∧ (kG 0) ∧ (kG 0) ∧ (kM ((((1 + (kA (y8 kW (kS l) 4) 3)) : Nat) : Int) - (i2 : Int))) ∧ (kJ (dI .i64 (yH (kV l i2)))) ∧ (kG (ka0 (yH (kV l i2)))) ∧ ((false) = false) ∧ (kG 0) ∧ (kG q) ∧ (kM (q : Int)) ∧ (vX j) ∧ (kJ [db (kD (kV l i2) 7) (ka0 (kD (kV l i2) 7))]) ∧ (kJ [iD 0, qR, qR, qR]) ∧ (kM y) ∧ (kJ (dI .i64 (vL l))) ∧ (kG (vY (bB q5 (qZ l) 5) (bE q5 (qZ l) 5))) ∧ (kG 0) ∧ (kG q) ∧ (kJ (dI .i64 (vU l))) ∧ (kG (vY (bB kW (kS l) 4) (bE kW (kS l) 4))) ∧ (kJ (kL ms))) zk ⟨rfl, rfl, rfl, rfl, rfl, rfl, (by rfl), rfl, rfl, rfl, (by rfl), rfl, rfl, rfl, rfl, rfl, rfl, rfl, rfl, rfl, rfl⟩ (show q - (j + 1) < q - j from zo)
     ·have hx23 : 1 ≤ ka0 (ka1 ms j ([] : List Int)) := hN.at zo
      refine aD (kT 6 (.b false :: kT 4 [])) (¬ ((((ka0 (ka1 ms j ([] : List Int))) : Nat) : Int) = (ka0 (yH (kV l i2)) : Int))) [(0, rV 0 0), (2, rV 1 0), (3, rV 2 0), (5, iV ((((1 + (kA (y8 kW (kS l) 4) 3)) : Nat) : Int) - ↑i2)), (6, sV .i64 (yH (kV l i2)) (ka0 (yH (kV l i2)))), (7, bV false), (56, oV 6 0 q 1), (57, uV q), (58, uV j)] [(0, some (95, (v5 l i2))), (1, some (59, u1)), (2, some (59, (aG y l q))), (6, some (23, .ds (kL ms)))] 7 zo ?_
      refine uJ [.w, .no] (uZ ((j : Int) + 1)) [(0, rV 0 0), (2, rV 1 0), (3, rV 2 0), (5, iV ((((1 + (kA (y8 kW (kS l) 4) 3)) : Nat) : Int) - ↑i2)), (6, sV .i64 (yH (kV l i2)) (ka0 (yH (kV l i2)))), (7, bV false), (56, oV 6 0 q 1), (57, uV q), (58, iV (↑j + 1))] ⟨by omega, by omega⟩ ?_
      exact kX ⟨(((j + 1) : Nat), (false : Bool)), ⟨zo, (by exact u3r zo hf zo)⟩⟩ [] (P := (kG 0) ∧ (kG 0) ∧ (kG 0) ∧ (kM ((((1 + (kA (y8 kW (kS l) 4) 3)) : Nat) : Int) - (i2 : Int))) ∧ (kJ (dI .i64 (yH (kV l i2)))) ∧ (kG (ka0 (yH (kV l i2)))) ∧ ((false) = false) ∧ (kG 0) ∧ (kG q) ∧ (kM (q : Int)) ∧ (vX j) ∧ (kJ [db (kD (kV l i2) 7) (ka0 (kD (kV l i2) 7))]) ∧ (kJ [iD 0, qR, qR, qR]) ∧ (kM y) ∧ (kJ (dI .i64 (vL l))) ∧ (kG (vY (bB q5 (qZ l) 5) (bE q5 (qZ l) 5))) ∧ (kG 0) ∧ (kG q) ∧ (kJ (dI .i64 (vU l))) ∧ (kG (vY (bB kW (kS l) 4) (bE kW (kS l) 4))) ∧ (kJ (kL ms))) zk ⟨rfl, rfl, rfl, rfl, rfl, rfl, (by rfl), rfl, rfl, rfl, (by rfl), rfl, rfl, rfl, rfl, rfl, rfl, rfl, rfl, rfl, rfl⟩ (show q - (j + 1) < q - j from zo)
   ·refine kI [.b false] (¬ ((j : Int) < (q : Int))) [(0, rV 0 0), (2, rV 1 0), (3, rV 2 0), (5, iV ((((1 + (kA (y8 kW (kS l) 4) 3)) : Nat) : Int) - ↑i2)), (6, sV .i64 (yH (kV l i2)) (ka0 (yH (kV l i2)))), (7, qS (D.lit (.bool (f)))), (56, oV 6 0 q 1), (57, uV q), (58, uV j), (59, bV false)] [(0, some (95, (v5 l i2))), (1, some (59, u1)), (2, some (59, (aG y l q))), (6, some (23, .ds (kL ms)))] 7 zo ?_
    refine AW.seq ?_
    refine zf ?_
    refine AW.exit ?_
    rcases Bool.eq_false_or_eq_true (f) with hx24 | hx24
    ·subst hx24
     refine kI [.no, .no] True [(0, rV 0 0), (2, rV 1 0), (3, rV 2 0), (5, iV ((((1 + (kA (y8 kW (kS l) 4) 3)) : Nat) : Int) - ↑i2)), (6, sV .i64 (yH (kV l i2)) (ka0 (yH (kV l i2)))), (81, bV false)] [(0, some (95, (v5 l i2))), (1, some (59, u1)), (2, some (59, (aG y l q))), (6, some (23, .ds (kL ms)))] 7 trivial ?_
     refine q8 ?_
     refine uJ [.no, .w, .no] ((-9223372036854775808) ≤ (((((1 + (kA (y8 kW (kS l) 4) 3)) : Nat) : Int) - (i2 : Int)) - 1) ∧ (((((1 + (kA (y8 kW (kS l) 4) 3)) : Nat) : Int) - (i2 : Int)) - 1) ≤ 9223372036854775807) [(0, rV 0 0), (2, rV 1 0), (3, rV 2 0), (5, iV (((((1 + (kA (y8 kW (kS l) 4) 3)) : Nat) : Int) - ↑i2) - 1))] ⟨by omega, by omega⟩ ?_
     exact kX ⟨(((i2 + 1) : Nat), (q : Nat), (ms : List (List Int))), ⟨zo, (by exact u8a hm (k35 hq.1 zo hf)), zo, (by assumption), (by assumption)⟩⟩ [] (P := (kG 0) ∧ (kG 0) ∧ (kG 0) ∧ ((((((1 + (kA (y8 kW (kS l) 4) 3)) : Nat) : Int) - (((i2 + 1) : Nat) : Int)) : Int) = (((((1 + (kA (y8 kW (kS l) 4) 3)) : Nat) : Int) - (i2 : Int)) - 1)) ∧ (([db (nX (yO l) (i2 + 1)) (ka0 (nX (yO l) (i2 + 1)))] : List D) = [db (kD (kV l i2) 7) (ka0 (kD (kV l i2) 7))]) ∧ (kJ [iD 0, qR, qR, qR]) ∧ (kM y) ∧ (kJ (dI .i64 (vL l))) ∧ (kG (vY (bB q5 (qZ l) 5) (bE q5 (qZ l) 5))) ∧ (kG 0) ∧ (kG q) ∧ (kJ (dI .i64 (vU l))) ∧ (kG (vY (bB kW (kS l) 4) (bE kW (kS l) 4))) ∧ (kJ (kL ms))) zk ⟨rfl, rfl, rfl, zo, (by rfl), rfl, rfl, rfl, rfl, rfl, rfl, rfl, rfl, rfl⟩ (show 1 + kA (y8 kW (kS l) 4) 3 - (i2 + 1) < 1 + kA (y8 kW (kS l) 4) 3 - i2 from zo)
    ·subst hx24
     refine kI [.no, .no] True [(0, rV 0 0), (2, rV 1 0), (3, rV 2 0), (5, iV ((((1 + (kA (y8 kW (kS l) 4) 3)) : Nat) : Int) - ↑i2)), (6, sV .i64 (yH (kV l i2)) (ka0 (yH (kV l i2)))), (81, bV true)] [(0, some (95, (v5 l i2))), (1, some (59, u1)), (2, some (59, (aG y l q))), (6, some (23, .ds (kL ms)))] 7 trivial ?_
     refine zt ?_
     refine aD (kT 4 [.ap none (q + 1) (kL (ms ++ ([(yH (kV l i2))] : List (List Int)))), .no, .no]) (([dl (yH (kV l i2)) (ka0 (yH (kV l i2)))].length = 1 * 1) ∧ (((kL ms) : List D).length = q * 1) ∧ ((q + 1) * 24 ≤ 140737488355328) ∧ (q + 1 = (q + 1)) ∧ (((kL ms) : List D) ++ [dl (yH (kV l i2)) (ka0 (yH (kV l i2)))] = (kL (ms ++ ([(yH (kV l i2))] : List (List Int)))))) [(0, rV 0 0), (2, rV 1 0), (3, rV 2 0), (5, iV ((((1 + (kA (y8 kW (kS l) 4) 3)) : Nat) : Int) - ↑i2))] [(0, some (95, (v5 l i2))), (1, some (59, u1)), (2, some (59, .cs [iC y, .d (dl (vL l) (vY (bB q5 (qZ l) 5) (bE q5 (qZ l) 5))), .own 8 0 (q + 1) 1 true, .d (dl (vU l) (vY (bB kW (kS l) 4) (bE kW (kS l) 4)))])), (8, some (23, .ds (kL (ms ++ ([(yH (kV l i2))] : List (List Int))))))] 9 ⟨l7, l7, zo, zo, (iJ ms (yH (kV l i2)) (ka0 (yH (kV l i2))) (by rfl))⟩ ?_
     refine uJ [.no, .w, .no] ((-9223372036854775808) ≤ (((((1 + (kA (y8 kW (kS l) 4) 3)) : Nat) : Int) - (i2 : Int)) - 1) ∧ (((((1 + (kA (y8 kW (kS l) 4) 3)) : Nat) : Int) - (i2 : Int)) - 1) ≤ 9223372036854775807) [(0, rV 0 0), (2, rV 1 0), (3, rV 2 0), (5, iV (((((1 + (kA (y8 kW (kS l) 4) 3)) : Nat) : Int) - ↑i2) - 1))] ⟨by omega, by omega⟩ ?_
     exact kX ⟨(((i2 + 1) : Nat), ((q + 1) : Nat), ((ms ++ ([(yH (kV l i2))] : List (List Int))) : List (List Int))), ⟨zo, (by exact u8b hm (k35 hq.1 zo hf)), (by (simp only [qH, qE, ka9, kb0, kb3] <;> omega)), (by exact hN.snoc zo), (by exact hW.snoc (Nat.le_trans (zH _) zo))⟩⟩ [(6, 8)] (P := (kG 0) ∧ (kG 0) ∧ (kG 0) ∧ ((((((1 + (kA (y8 kW (kS l) 4) 3)) : Nat) : Int) - (((i2 + 1) : Nat) : Int)) : Int) = (((((1 + (kA (y8 kW (kS l) 4) 3)) : Nat) : Int) - (i2 : Int)) - 1)) ∧ (([db (nX (yO l) (i2 + 1)) (ka0 (nX (yO l) (i2 + 1)))] : List D) = [db (kD (kV l i2) 7) (ka0 (kD (kV l i2) 7))]) ∧ (kJ [iD 0, qR, qR, qR]) ∧ (kM y) ∧ (kJ (dI .i64 (vL l))) ∧ (kG (vY (bB q5 (qZ l) 5) (bE q5 (qZ l) 5))) ∧ (kG 0) ∧ (kG (q + 1)) ∧ (kJ (dI .i64 (vU l))) ∧ (kG (vY (bB kW (kS l) 4) (bE kW (kS l) 4))) ∧ (kJ (kL (ms ++ ([(yH (kV l i2))] : List (List Int)))))) zk ⟨rfl, rfl, rfl, zo, (by rfl), rfl, rfl, rfl, rfl, rfl, rfl, rfl, rfl, rfl⟩ (show 1 + kA (y8 kW (kS l) 4) 3 - (i2 + 1) < 1 + kA (y8 kW (kS l) 4) 3 - i2 from zo)
  ·refine kI [.no, .b false] (¬ ((0 : Int) < ((((1 + (kA (y8 kW (kS l) 4) 3)) : Nat) : Int) - (i2 : Int)))) [(0, rV 0 0), (2, rV 1 0), (3, rV 2 0), (5, iV ((((1 + (kA (y8 kW (kS l) 4) 3)) : Nat) : Int) - ↑i2)), (50, bV false)] [(0, some (95, .ds [db (kV l i2) (ka0 (kV l i2))])), (1, some (59, u1)), (2, some (59, (aG y l q))), (6, some (23, .ds (kL ms)))] 7 zo ?_
   refine zf ?_
   refine AW.exit ?_
   refine kI [.no, .no] True [(2, rV 1 0)] [(0, some (95, .ds [db (kV l i2) (ka0 (kV l i2))])), (1, some (59, (aG y l q))), (6, some (23, .ds (kL ms)))] 7 trivial ?_
   obtain rfl : i2 = (1 + (kA (y8 kW (kS l) 4) 3)) := (by omega)
   refine AW.freeze 6 (l' := [(2, rV 1 0)]) (g' := [(0, some (95, .ds [db (nX (yO l) (1 + (kA (y8 kW (kS l) 4) 3))) (ka0 (nX (yO l) (1 + (kA (y8 kW (kS l) 4) 3))))])), (1, some (59, .ds [iD y, dl (vL l) (vY (bB q5 (qZ l) 5) (bE q5 (qZ l) 5)), D.sl (kL ms) q, dl (vU l) (vY (bB kW (kS l) 4) (bE kW (kS l) 4))]))]) rfl (FzS.cons rfl (.same _) FzS.nil) (qT rfl rfl (FzG.to (bc := .cs [iC y, .d (dl (vL l) (vY (bB q5 (qZ l) 5) (bE q5 (qZ l) 5))), .own 6 0 q 1 true, .d (dl (vU l) (vY (bB kW (kS l) 4) (bE kW (kS l) 4)))]) rfl (by rfl) (FzL.cons (.same _) (FzL.cons (.same _) (FzL.cons (@FzC.own 6 ((kL ms) : List D) 0 q 1 true ((kL ms) : List D) (by rw [List.drop_zero, Nat.mul_one, kb6 (by (simp only [qH, qE, uA, ka9, kb0, kb3, kb2, kb5, kb4, kc1, kc0, kb9, Nat.mul_one] <;> omega))]) l7) (FzL.cons (.same _) FzL.nil)))) FzG.nil)) ?_
   have hz1 : boK l = y := hy
   have hz2 : nB l = ms := hm
   refine AW.ret ?_
   exact kC (.inr rfl) [] (P := (((boK l) : Int) = y) ∧ (((dI .i64 (z3 l)) : List D) = (dI .i64 (vL l))) ∧ (((xF l) : Nat) = (vY (bB q5 (qZ l) 5) (bE q5 (qZ l) 5))) ∧ (((kL (nB l)) : List D) = (kL ms)) ∧ (((ka0 (nB l)) : Nat) = q) ∧ (((dI .i64 (z0 l)) : List D) = (dI .i64 (vU l))) ∧ (((xE l) : Nat) = (vY (bB kW (kS l) 4) (bE kW (kS l) 4))) ∧ (([db (boD l) (ka0 (boD l))] : List D) = [db (nX (yO l) (1 + (kA (y8 kW (kS l) 4) 3))) (ka0 (nX (yO l) (1 + (kA (y8 kW (kS l) 4) 3))))])) zk ⟨(by exact hz1), (by rfl), (by rfl), (by (rw [hz2]; done)), (by (rw [hz2]; omega)), (by rfl), (by rfl), (by rfl)⟩
end Go.Proofs.YtcfmjpnffembpaaGreat
