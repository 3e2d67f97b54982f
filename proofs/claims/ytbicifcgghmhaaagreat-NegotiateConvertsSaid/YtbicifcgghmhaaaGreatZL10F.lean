/- Boxes out of dice. No statement is proved here. -/
import Derived.Test.YtbicifcgghmhaaaGreatZL10E
namespace Go.Proofs.YtbicifcgghmhaaaGreat
open Go.ChangeShapes Go.WideShapes Go.ChangeAt Go.RowKit
open List renaming drop → ka3, getD → ka1, getD_eq_getElem?_getD → ka8, getElem?_eq_getElem → ka7, length → ka0, length_append → ka6, length_cons → ka9, length_drop → kb2, length_map → kc3, length_nil → kb0, length_replicate → kb4, length_reverse → kc1, length_set → kb8, length_take → kb1, take → ka5, take_of_length_le → kb9
open Nat renaming le_trans → ke0, mul_one → kc7
set_option linter.unusedVariables false
set_option linter.unusedSimpArgs false
set_option maxHeartbeats 4000000
set_option maxRecDepth 100000
theorem u1r (xs : List (List Int)) (i : Nat) (h : i < xs.length) : (kK xs)[i]? = some (D.sl (dI .i64 (ka1 xs i [])) (ka1 xs i []).length) := by
 have := bK xs i h
 rw [List.getElem?_drop, Nat.add_zero] at this; exact this
def kbV (l : List Int) : Int := IntKind.i64.wrap (1 * (((2 ^ (1 + (kA l 7))) : Nat) : Int))
def orI (a b : Int) : Int := qM .or .i64 a b
def d9 (l : List Int) : Nat → List Int
 | 0 => l
 | i + 1 => kC (d9 l i) 7
def knK (l : List Int) (k : Int) : Nat → Int
 | 0 => k
 | i + 1 => orI (knK l k i) (kbV (d9 l i))
theorem v8 {l : List Int} (h : Byt l) : ∀ i, Byt (d9 l i)
 | 0 => h
 | i + 1 => qR _ (v8 h i)
def thE (x m : List Int) : Bool := decide (ka0 x = ka0 m ∧ ka1 x 0 0 = ka1 m 0 0)
def oH (ms : List (List Int)) (m : List Int) : Bool := ms.any fun x => thE x m
theorem v3j (ms : List (List Int)) (m : List Int) : oH (ka5 0 ms) m = false := rfl
theorem r5 {ms : List (List Int)} {m : List Int} {j : Nat} (h : j < ms.length) : oH (ka5 (j + 1) ms) m = (oH (ka5 j ms) m || thE (ka1 ms j []) m) := by
 unfold oH
 rw [ka8, ka7 h, List.take_succ_eq_append_getElem h, List.any_append]
 simp
theorem u19 {ms : List (List Int)} {m : List Int} {j : Nat} (h : j < ms.length) (h1 : oH (ka5 j ms) m = true) : oH (ka5 (j + 1) ms) m = true := by
 rw [r5 h, h1]; rfl
theorem u1b {ms : List (List Int)} {m : List Int} {j : Nat} (h : j < ms.length) (h1 : ka0 (ka1 ms j []) = ka0 m ∧ ka1 (ka1 ms j []) 0 0 = ka1 m 0 0) : oH (ka5 (j + 1) ms) m = true := by
 rw [r5 h, show thE (ka1 ms j []) m = true from decide_eq_true h1, Bool.or_true]
theorem u1a {ms : List (List Int)} {m : List Int} {j : Nat} (h : j < ms.length) (h0 : oH (ka5 j ms) m = false) (h1 : ¬ (ka0 (ka1 ms j []) = ka0 m ∧ ka1 (ka1 ms j []) 0 0 = ka1 m 0 0)) : oH (ka5 (j + 1) ms) m = false := by
 rw [r5 h, h0, show thE (ka1 ms j []) m = false from decide_eq_false h1]; rfl
def oJ (l : List Int) : Nat → List Int
 | 0 => l
 | i + 1 => kC (oJ l i) 7
def oI (l : List Int) : Nat → List (List Int)
 | 0 => []
 | i + 1 => if oH (oI l i) (yP (oJ l i)) = true then oI l i else oI l i ++ [yP (oJ l i)]
theorem iZ {l : List Int} (h : Byt l) : ∀ i, Byt (oJ l i)
 | 0 => h
 | i + 1 => qR _ (iZ h i)
theorem v0w {l : List Int} {i : Nat} {ms : List (List Int)} (h : oI l i = ms) (h1 : oH ms (yP (oJ l i)) = true) : oI l (i + 1) = ms := by
 subst h; exact if_pos h1
theorem v0z {l : List Int} {i : Nat} {ms : List (List Int)} (h : oI l i = ms) (h1 : oH ms (yP (oJ l i)) = false) : oI l (i + 1) = ms ++ [yP (oJ l i)] := by
 subst h; exact if_neg (by rw [h1]; decide)
theorem v4b {l : List Int} {k : Int} {i : Nat} {y x : Int} (h : knK l k i = y) (hx : x = orI y (kbV (d9 l i))) : knK l k (i + 1) = x := by
 subst h; rw [hx]; rfl
theorem r6 {ms : List (List Int)} {m : List Int} {j c : Nat} {f : Bool} (hc : ms.length = c) (hj : c ≤ j) (h : oH (ka5 j ms) m = f) : oH ms m = f := by
 rw [kb9 (by omega)] at h; exact h
theorem k72 (l : List Int) : ∀ i, MsW (oI l i)
 | 0 => MsW.nil
 | i + 1 => by
  rw [oI]; split
  ·exact k72 l i
  ·exact (k72 l i).snoc (ke0 (sY _) (by omega))
theorem k12 (l : List Int) : ∀ i, ka0 (oI l i) ≤ i
 | 0 => Nat.le_refl _
 | i + 1 => by
  have := k12 l i
  rw [oI]; split
  ·omega
  ·rw [ka6, List.length_singleton]; omega
def bo1 (l : List Int) : List Int := kC (kC l 7) 3
def bo2 (l : List Int) : List Int := d9 (bo1 l) (kA (kC l 7) 3)
def rtT : List Int := [44100, 44100, 48000, 48000, 8000, 8000, 32000, 50000, 96000, 192000]
def szT : List Int := [16, 64, 64, 1024, 2048, 2048, 1, 65536]
def bo3 (l : List Int) : List Int := y9 rtT (bo2 l) 5
def bo4 (l : List Int) : List Int := y9 szT (bo3 l) 4
def bo5 (l : List Int) : List Int := kC (bo4 l) 3
def boN (l : List Int) : Nat := 1 + kA (bo4 l) 3
def boD (l : List Int) : List Int := oJ (bo5 l) (boN l)
def zQ (l : List Int) : Int := knK (bo1 l) (kbV l) (kA (kC l 7) 3)
def zP (l : List Int) : List Int := eX (aS rtT (bo2 l) 5) (aN rtT (bo2 l) 5)
def wM (l : List Int) : Nat := vM (aS rtT (bo2 l) 5) (aN rtT (bo2 l) 5)
def zO (l : List Int) : List Int := eX (aS szT (bo3 l) 4) (aN szT (bo3 l) 4)
def wL (l : List Int) : Nat := vM (aS szT (bo3 l) 4) (aN szT (bo3 l) 4)
def mA (l : List Int) : List (List Int) := oI (bo5 l) (boN l)
def MsN (xs : List (List Int)) : Prop := ∀ l ∈ xs, 1 ≤ ka0 l
theorem MsN.nil : MsN [] := fun l h => by cases h
theorem MsN.snoc {xs : List (List Int)} {l : List Int} (h : MsN xs) (hl : 1 ≤ ka0 l) : MsN (xs ++ [l]) := fun m hm => (List.mem_append.1 hm).elim (h m) fun hm => by
 rw [List.mem_singleton.1 hm]; exact hl
theorem MsN.at {xs : List (List Int)} (h : MsN xs) {i : Nat} (hi : i < xs.length) : 1 ≤ ka0 (ka1 xs i []) := by
 rw [ka8, ka7 hi]; exact h _ (List.getElem_mem hi)
attribute [local irreducible] aS y9 aN eX vM kA kC yP oH
abbrev uB := ([44100, 44100, 48000, 48000, 8000, 8000, 32000, 50000, 96000, 192000] : List Int)
abbrev uA (l : List Int) := d9 (kC (kC l 7) 3) (kA (kC l 7) 3)
abbrev kO (l : List Int) := y9 uB (uA l) 5
abbrev kR := ([16, 64, 64, 1024, 2048, 2048, 1, 65536] : List Int)
abbrev yT (l : List Int) := kC (y9 kR (kO l) 4) 3
abbrev kQ (l : List Int) (i2 : Nat) := oJ (yT l) i2
abbrev vI (l : List Int) := eX (aS uB (uA l) 5) (aN uB (uA l) 5)
abbrev vT (l : List Int) := eX (aS kR (kO l) 4) (aN kR (kO l) 4)
theorem dL {p : Prop} (h : p := by first | omega | assumption | simp) : p := h
theorem eG {p : Prop} (h : p := by first | rfl | omega | assumption | (simp; done) | (simp; omega)) : p := h
theorem gZ {p : Prop} (h : p := by first | omega | (show _ < _; simp; omega)) : p := h
theorem eH {p : Prop} (h : p := by first | omega | (simp only [kZ, kY, qV, ka6, ka9, kb0, kb1, kb2, kb4, kb8, kc3, kc1, kc7] <;> omega) | rfl) : p := h
theorem m6 {p : Prop} (h : p := by first | rfl | assumption | simp) : p := h
abbrev aC (y : Int) (l : List Int) (q : Nat) : BC := .cs [iC y, .d (D.sl (dI .i64 (vI l)) (vM (aS uB (uA l) 5) (aN uB (uA l) 5))), .own 6 0 q 1 true, .d (D.sl (dI .i64 (vT l)) (vM (aS kR (kO l) 4) (aN kR (kO l) 4)))]
abbrev u3 : BC := .ds [iD 0, D.lit (.slice none 0 0), D.lit (.slice none 0 0), D.lit (.slice none 0 0)]
abbrev vY (l : List Int) (i2 : Nat) : BC := .ds [D.sl (dI .u8 (kC (kQ l i2) 7)) (ka0 (kC (kQ l i2) 7))]
abbrev mF (l : List Int) (i : Nat) : BC := .ds [D.sl (dI .u8 (d9 (kC (kC l 7) 3) i)) (ka0 (d9 (kC (kC l 7) 3) i))]
abbrev mE (y : Int) : BC := .ds [iD y, D.lit (.slice none 0 0), D.lit (.slice none 0 0), D.lit (.slice none 0 0)]
theorem v36 (l : List Int) (hb : Byt l) : Fun 27 [.c (.ptr 0 0)] (kF [(0, some (70, .ds [D.sl (dI .u8 l) (ka0 l)]))]) 1 (.e (.agg [iC (zQ l), .d (D.sl (dI .i64 (zP l)) (wM l)), .d (D.sl (kK (mA l)) (ka0 (mA l))), .d (D.sl (dI .i64 (zO l)) (wL l))])) (kF [(0, some (70, .ds [D.sl (dI .u8 (boD l)) (ka0 (boD l))]))]) 1 := by
 refine Fun.mk (n := 89) Tryz.func27 rfl rfl (Nat.le_of_ble_eq_true rfl) ?_
 intro cx hcx
 refine kI [.no] True [(0, rV 0 0), (2, rV 1 0)] [(0, some (70, .ds [db l (ka0 l)])), (1, some (63, u3))] 2 trivial ?_
 have hx1 : ((((((kA l 7) : Nat) : Int) < 7) ∨ ((kA l 7) = 0)) ∧ ((kA l 7) ≤ 255)) := uK l (7 : Int) (qJ : Byt l)
 have hx2 : (Byt (kC l 7)) := qR (7 : Int) (qJ : Byt l)
 refine kI [.no, .call [0] (uV (kA l 7)) [(0, some (70, .ds [db (kC l 7) (ka0 (kC l 7))]))] 1 [] none, .w, .n2 (1 + (kA l 7)) 0, .no, .no, .no] ((_) ∧ (yF (1 + (kA l 7 : Int))) ∧ (((1 + (kA l 7 : Int)) : Int) = (((1 + (kA l 7)) : Nat) : Int)) ∧ ((1 + (kA l 7)) ≤ 64)) [(0, rV 0 0), (2, rV 1 0), (3, rV 2 0)] [(0, some (70, .ds [db (kC l 7) (ka0 (kC l 7))])), (1, some (63, u3)), (2, some (63, .ds [iD (IntKind.i64.wrap (1 * (((2 ^ (1 + (kA l 7))) : Nat) : Int))), qQ, qQ, qQ]))] 3 ⟨(cZ l 7 (qJ : Byt l)), ⟨by omega, by omega⟩, (by first | rfl | omega), zo⟩ ?_
 refine AW.seq ?_
 have hx3 : ((((((kA (kC l 7) 3) : Nat) : Int) < 3) ∨ ((kA (kC l 7) 3) = 0)) ∧ ((kA (kC l 7) 3) ≤ 255)) := uK (kC l 7) (3 : Int) (qJ : Byt (kC l 7))
 have hx4 : (Byt (kC (kC l 7) 3)) := qR (3 : Int) (qJ : Byt (kC l 7))
 refine kI [.no, .call [0] (uV (kA (kC l 7) 3)) [(0, some (70, .ds [db (kC (kC l 7) 3) (ka0 (kC (kC l 7) 3))]))] 1 [] none, .no] _ [(0, rV 0 0), (2, rV 1 0), (3, rV 2 0), (4, uV (kA (kC l 7) 3))] [(0, some (70, .ds [db (kC (kC l 7) 3) (ka0 (kC (kC l 7) 3))])), (1, some (63, u3)), (2, some (63, .ds [iD (IntKind.i64.wrap (1 * (((2 ^ (1 + (kA l 7))) : Nat) : Int))), qQ, qQ, qQ]))] 3 (cZ (kC l 7) 3 (qJ : Byt (kC l 7))) ?_
 refine AW.block ?_
 refine qF 1 hcx (fun (x : {x : Nat × Int // match x with | (i, y) => (i ≤ kA (kC l 7) 3) ∧ (knK (kC (kC l 7) 3) (kbV l) i = y)}) => match x with | ⟨(i, y), _⟩ => (⟨[(0, rV 0 0), (2, rV 1 0), (3, rV 2 0), (4, iV ((kA (kC l 7) 3 : Int) - (i : Int)))], [(0, some (70, (mF l i))), (1, some (63, u3)), (2, some (63, (mE y)))], 3⟩ : ES)) (fun x => match x with | ⟨(i, y), _⟩ => kA (kC l 7) 3 - i) ⟨((0 : Nat), ((IntKind.i64.wrap (1 * (((2 ^ (1 + (kA l 7))) : Nat) : Int))) : Int)), ⟨dL, rfl⟩⟩ [] (P := (kH 0) ∧ (kH 0) ∧ (kH 0) ∧ ((((kA (kC l 7) 3 : Int) - 0) : Int) = (kA (kC l 7) 3 : Int)) ∧ (([db (d9 (kC (kC l 7) 3) 0) (ka0 (d9 (kC (kC l 7) 3) 0))] : List D) = [db (kC (kC l 7) 3) (ka0 (kC (kC l 7) 3))]) ∧ (kM [iD 0, qQ, qQ, qQ]) ∧ (kM [iD (IntKind.i64.wrap (1 * (((2 ^ (1 + (kA l 7))) : Nat) : Int))), qQ, qQ, qQ])) zk ⟨rfl, rfl, rfl, eG, (by first | rfl | with_reducible assumption | (simp only [dF, aK, y4]; rfl) | (congr 1; first | assumption | (simp; done) | omega)), rfl, rfl⟩ ?_
 rintro ⟨⟨i, y⟩, hinv0⟩
 obtain ⟨hi, hy⟩ : (i ≤ kA (kC l 7) 3) ∧ (knK (kC (kC l 7) 3) (kbV l) i = y) := hinv0
 refine uG (l := [(0, rV 0 0), (2, rV 1 0), (3, rV 2 0), (4, iV ((kA (kC l 7) 3 : Int) - (i : Int)))]) (g := [(0, some (70, (mF l i))), (1, some (63, u3)), (2, some (63, (mE y)))]) (nx := 3) rfl rfl rfl ?_
 refine AW.seq ?_
 by_cases hx5 : ((0 : Int) < ((((kA (kC l 7) 3) : Nat) : Int) - ((i : Nat) : Int)))
 ·refine kI [.no, .b true] (((0 : Int) < ((kA (kC l 7) 3 : Int) - (i : Int)))) [(0, rV 0 0), (2, rV 1 0), (3, rV 2 0), (4, iV ((kA (kC l 7) 3 : Int) - ↑i)), (18, bV true)] [(0, some (70, (mF l i))), (1, some (63, u3)), (2, some (63, (mE y)))] 3 zo ?_
  refine vO ?_
  refine AW.seq ?_
  refine AW.block ?_
  have hx6 : ((((((kA (d9 (kC (kC l 7) 3) i) 7) : Nat) : Int) < 7) ∨ ((kA (d9 (kC (kC l 7) 3) i) 7) = 0)) ∧ ((kA (d9 (kC (kC l 7) 3) i) 7) ≤ 255)) := uK (d9 (kC (kC l 7) 3) i) (7 : Int) ((v8 (qJ : Byt (kC (kC l 7) 3)) _))
  have hx7 : (Byt (kC (d9 (kC (kC l 7) 3) i) 7)) := qR (7 : Int) ((v8 (qJ : Byt (kC (kC l 7) 3)) _))
  refine aB [.no, .no, .no, .call [0] (iV (kA (d9 (kC (kC l 7) 3) i) 7 : Int)) [(0, some (70, .ds [db (kC (d9 (kC (kC l 7) 3) i) 7) (ka0 (kC (d9 (kC (kC l 7) 3) i) 7))]))] 1 [] none, .w, .n2 (1 + (kA (d9 (kC (kC l 7) 3) i) 7)) 0, .i (orI y (IntKind.i64.wrap (1 * (((2 ^ (1 + (kA (d9 (kC (kC l 7) 3) i) 7))) : Nat) : Int)))), .no, .no] ((_) ∧ ((-9223372036854775808) ≤ (1 + (kA (d9 (kC (kC l 7) 3) i) 7 : Int)) ∧ (1 + (kA (d9 (kC (kC l 7) 3) i) 7 : Int)) ≤ 9223372036854775807) ∧ (((1 + (kA (d9 (kC (kC l 7) 3) i) 7 : Int)) : Int) = (((1 + (kA (d9 (kC (kC l 7) 3) i) 7)) : Nat) : Int)) ∧ ((1 + (kA (d9 (kC (kC l 7) 3) i) 7)) ≤ 64) ∧ (qM .or .i64 y (IntKind.i64.wrap (1 * (((2 ^ (1 + (kA (d9 (kC (kC l 7) 3) i) 7))) : Nat) : Int))) = (orI y (IntKind.i64.wrap (1 * (((2 ^ (1 + (kA (d9 (kC (kC l 7) 3) i) 7))) : Nat) : Int)))))) [(0, rV 0 0), (2, rV 1 0), (3, rV 2 0), (4, iV ((kA (kC l 7) 3 : Int) - ↑i))] [(0, some (70, .ds [db (kC (d9 (kC (kC l 7) 3) i) 7) (ka0 (kC (d9 (kC (kC l 7) 3) i) 7))])), (1, some (63, u3)), (2, some (63, .ds [iD (orI y (IntKind.i64.wrap (1 * (((2 ^ (1 + (kA (d9 (kC (kC l 7) 3) i) 7))) : Nat) : Int)))), qQ, qQ, qQ]))] 3 ⟨(cZ (d9 (kC (kC l 7) 3) i) 7 (v8 (qJ : Byt (kC (kC l 7) 3)) _)), ⟨by omega, by omega⟩, (by first | rfl | omega), zo, rfl⟩ ?_
  refine yK [.no, .w, .no] (yF (((kA (kC l 7) 3 : Int) - (i : Int)) - 1)) [(0, rV 0 0), (2, rV 1 0), (3, rV 2 0), (4, iV (((kA (kC l 7) 3 : Int) - ↑i) - 1))] ⟨by omega, by omega⟩ ?_
  exact Rd.of ⟨(((i + 1) : Nat), ((orI y (IntKind.i64.wrap (1 * (((2 ^ (1 + (kA (d9 (kC (kC l 7) 3) i) 7))) : Nat) : Int)))) : Int)), ⟨dL, (v4b hy rfl)⟩⟩ [] (P := (kH 0) ∧ (kH 0) ∧ (kH 0) ∧ ((((kA (kC l 7) 3 : Int) - (((i + 1) : Nat) : Int)) : Int) = (((kA (kC l 7) 3 : Int) - (i : Int)) - 1)) ∧ (([db (d9 (kC (kC l 7) 3) (i + 1)) (ka0 (d9 (kC (kC l 7) 3) (i + 1)))] : List D) = [db (kC (d9 (kC (kC l 7) 3) i) 7) (ka0 (kC (d9 (kC (kC l 7) 3) i) 7))]) ∧ (kM [iD 0, qQ, qQ, qQ]) ∧ (kM [iD (orI y (IntKind.i64.wrap (1 * (((2 ^ (1 + (kA (d9 (kC (kC l 7) 3) i) 7))) : Nat) : Int)))), qQ, qQ, qQ])) zk ⟨rfl, rfl, rfl, eG, (by first | rfl | with_reducible assumption | (simp only [dF, aK, y4]; rfl) | (congr 1; first | assumption | (simp; done) | omega)), rfl, rfl⟩ (show kA (kC l 7) 3 - (i + 1) < kA (kC l 7) 3 - i from gZ)
 ·refine kI [.no, .b false] (¬ ((0 : Int) < ((kA (kC l 7) 3 : Int) - (i : Int)))) [(0, rV 0 0), (2, rV 1 0), (3, rV 2 0), (4, iV ((kA (kC l 7) 3 : Int) - ↑i)), (18, bV false)] [(0, some (70, (mF l i))), (1, some (63, u3)), (2, some (63, (mE y)))] 3 zo ?_
  refine zf ?_
  refine AW.exit ?_
  obtain rfl : i = (kA (kC l 7) 3) := (by omega)
  refine kI (qN 6 [(.fz (.no)), .call [0] (.e (.agg [.d (dl (vI l) (vM (aS uB (uA l) 5) (aN uB (uA l) 5)))])) [(0, some (70, .ds [db (kO l) (ka0 (kO l))]))] 1 [] none, .no, .no]) ((([iD 44100, iD 44100, iD 48000, iD 48000, iD 8000, iD 8000, iD 32000, iD 50000, iD 96000, iD 192000] : List D).length = 5 * 2) ∧ (_)) [(0, rV 0 0), (2, rV 1 0), (3, rV 2 0)] [(0, some (70, .ds [db (kO l) (ka0 (kO l))])), (1, some (63, u3)), (2, some (63, .ds [iD y, dl (vI l) (vM (aS uB (uA l) 5) (aN uB (uA l) 5)), qQ, qQ]))] 4 ⟨eH, (u67 uB 5 (uA l) (by first | omega | with_reducible assumption | (simp only [kZ, kY, ka6, ka9, kb0, kb1, kb2, kb4, kb8] <;> omega) | rfl | assumption) zo zo (v8 (qJ : Byt (kC (kC l 7) 3)) _))⟩ ?_
  refine kI (qN 5 [(.fz (.no)), .call [0] (.e (.agg [.d (dl (vT l) (vM (aS kR (kO l) 4) (aN kR (kO l) 4)))])) [(0, some (70, .ds [db (y9 kR (kO l) 4) (ka0 (y9 kR (kO l) 4))]))] 1 [] none, .no, .no]) ((([iD 16, iD 64, iD 64, iD 1024, iD 2048, iD 2048, iD 1, iD 65536] : List D).length = 4 * 2) ∧ (_)) [(0, rV 0 0), (2, rV 1 0), (3, rV 2 0)] [(0, some (70, .ds [db (y9 kR (kO l) 4) (ka0 (y9 kR (kO l) 4))])), (1, some (63, u3)), (2, some (63, .ds [iD y, dl (vI l) (vM (aS uB (uA l) 5) (aN uB (uA l) 5)), qQ, dl (vT l) (vM (aS kR (kO l) 4) (aN kR (kO l) 4))]))] 5 ⟨eH, (u67 kR 4 (kO l) (by first | omega | with_reducible assumption | (simp only [kZ, kY, ka6, ka9, kb0, kb1, kb2, kb4, kb8] <;> omega) | rfl | assumption) zo zo (aJ (v8 (qJ : Byt (kC (kC l 7) 3)) _)))⟩ ?_
  refine AW.seq ?_
  have hx8 : ((((((kA (y9 kR (kO l) 4) 3) : Nat) : Int) < 3) ∨ ((kA (y9 kR (kO l) 4) 3) = 0)) ∧ ((kA (y9 kR (kO l) 4) 3) ≤ 255)) := uK (y9 kR (kO l) 4) (3 : Int) ((aJ (aJ (v8 (qJ : Byt (kC (kC l 7) 3)) _))))
  have hx9 : (Byt (yT l)) := qR (3 : Int) ((aJ (aJ (v8 (qJ : Byt (kC (kC l 7) 3)) _))))
  refine kI [.no, .call [0] (uV (kA (y9 kR (kO l) 4) 3)) [(0, some (70, .ds [db (yT l) (ka0 (yT l))]))] 1 [] none, .w, .no] ((_) ∧ (yF (1 + (kA (y9 kR (kO l) 4) 3 : Int)))) [(0, rV 0 0), (2, rV 1 0), (3, rV 2 0), (5, iV (1 + (kA (y9 kR (kO l) 4) 3 : Int)))] [(0, some (70, .ds [db (yT l) (ka0 (yT l))])), (1, some (63, u3)), (2, some (63, .ds [iD y, dl (vI l) (vM (aS uB (uA l) 5) (aN uB (uA l) 5)), qQ, dl (vT l) (vM (aS kR (kO l) 4) (aN kR (kO l) 4))]))] 5 ⟨(cZ (y9 kR (kO l) 4) 3 (aJ (aJ (v8 (qJ : Byt (kC (kC l 7) 3)) _)))), ⟨by omega, by omega⟩⟩ ?_
  refine AW.block ?_
  refine k56 2 2 1 38 (cs' := [iC y, .d (dl (vI l) (vM (aS uB (uA l) 5) (aN uB (uA l) 5))), .own 5 0 0 1 true, .d (dl (vT l) (vM (aS kR (kO l) 4) (aN kR (kO l) 4)))]) rfl rfl rfl ?_
  refine qF 1 hcx (fun (x : {x : Nat × Nat × List (List Int) // match x with | (i2, q, ms) => (i2 ≤ 1 + kA (y9 kR (kO l) 4) 3) ∧ (oI (yT l) i2 = ms) ∧ (ka0 ms = q ∧ q ≤ i2) ∧ (MsN ms) ∧ (MsW ms)}) => match x with | ⟨(i2, q, ms), _⟩ => (⟨[(0, rV 0 0), (2, rV 1 0), (3, rV 2 0), (5, iV ((((1 + (kA (y9 kR (kO l) 4) 3)) : Nat) : Int) - (i2 : Int)))], [(0, some (70, .ds [db (kQ l i2) (ka0 (kQ l i2))])), (1, some (63, u3)), (2, some (63, (aC y l q))), (6, some (38, .ds (kK ms)))], 7⟩ : ES)) (fun x => match x with | ⟨(i2, q, ms), _⟩ => 1 + kA (y9 kR (kO l) 4) 3 - i2) ⟨((0 : Nat), (0 : Nat), (([] : List (List Int)) : List (List Int))), ⟨dL, rfl, ⟨rfl, by omega⟩, MsN.nil, MsW.nil⟩⟩ [(6, 5)] (P := (kH 0) ∧ (kH 0) ∧ (kH 0) ∧ ((((((1 + (kA (y9 kR (kO l) 4) 3)) : Nat) : Int) - 0) : Int) = (1 + (kA (y9 kR (kO l) 4) 3 : Int))) ∧ (([db (oJ (yT l) 0) (ka0 (oJ (yT l) 0))] : List D) = [db (yT l) (ka0 (yT l))]) ∧ (kM [iD 0, qQ, qQ, qQ]) ∧ (kP y) ∧ (kM (dI .i64 (vI l))) ∧ (kH (vM (aS uB (uA l) 5) (aN uB (uA l) 5))) ∧ (kH 0) ∧ (kH 0) ∧ (kM (dI .i64 (vT l))) ∧ (kH (vM (aS kR (kO l) 4) (aN kR (kO l) 4))) ∧ (((kK ([] : List (List Int))) : List D) = ([] : List D))) zk ⟨rfl, rfl, rfl, eG, (by first | rfl | with_reducible assumption), rfl, rfl, rfl, rfl, rfl, rfl, rfl, rfl, (by first | rfl | with_reducible assumption)⟩ ?_
  rintro ⟨⟨i2, q, ms⟩, hinv1⟩
  obtain ⟨hi2, hm, hq, hN, hW⟩ : (i2 ≤ 1 + kA (y9 kR (kO l) 4) 3) ∧ (oI (yT l) i2 = ms) ∧ (ka0 ms = q ∧ q ≤ i2) ∧ (MsN ms) ∧ (MsW ms) := hinv1
  refine uG (l := [(0, rV 0 0), (2, rV 1 0), (3, rV 2 0), (5, iV ((((1 + (kA (y9 kR (kO l) 4) 3)) : Nat) : Int) - (i2 : Int)))]) (g := [(0, some (70, .ds [db (kQ l i2) (ka0 (kQ l i2))])), (1, some (63, u3)), (2, some (63, (aC y l q))), (6, some (38, .ds (kK ms)))]) (nx := 7) rfl rfl rfl ?_
  refine AW.seq ?_
  by_cases hx10 : ((0 : Int) < ((((1 + (kA (y9 kR (kO l) 4) 3)) : Nat) : Int) - ((i2 : Nat) : Int)))
  ·refine kI [.no, .b true] (((0 : Int) < ((((1 + (kA (y9 kR (kO l) 4) 3)) : Nat) : Int) - (i2 : Int)))) [(0, rV 0 0), (2, rV 1 0), (3, rV 2 0), (5, iV ((((1 + (kA (y9 kR (kO l) 4) 3)) : Nat) : Int) - ↑i2)), (50, bV true)] [(0, some (70, .ds [db (kQ l i2) (ka0 (kQ l i2))])), (1, some (63, u3)), (2, some (63, (aC y l q))), (6, some (38, .ds (kK ms)))] 7 zo ?_
   refine vO ?_
   refine AW.seq ?_
   refine AW.block ?_
   have hx11 : (((1 : Nat) ≤ (ka0 (yP (kQ l i2)))) ∧ ((ka0 (yP (kQ l i2))) ≤ 6)) := (u1u ((iZ (qJ : Byt (yT l)) _)))
   refine kI [.no, .call [0] (sV .i64 (yP (kQ l i2)) (ka0 (yP (kQ l i2)))) [(0, some (70, (vY l i2)))] 1 [] none, .no] _ [(0, rV 0 0), (2, rV 1 0), (3, rV 2 0), (5, iV ((((1 + (kA (y9 kR (kO l) 4) 3)) : Nat) : Int) - ↑i2)), (6, sV .i64 (yP (kQ l i2)) (ka0 (yP (kQ l i2))))] [(0, some (70, (vY l i2))), (1, some (63, u3)), (2, some (63, (aC y l q))), (6, some (38, .ds (kK ms)))] 7 (v37 (kQ l i2) (iZ (qJ : Byt (yT l)) _)) ?_
   refine kS [.no] True [(0, rV 0 0), (2, rV 1 0), (3, rV 2 0), (5, iV ((((1 + (kA (y9 kR (kO l) 4) 3)) : Nat) : Int) - ↑i2)), (6, sV .i64 (yP (kQ l i2)) (ka0 (yP (kQ l i2)))), (7, bV false)] trivial ?_
   refine AW.seq ?_
   refine kS (qN 4 []) True [(0, rV 0 0), (2, rV 1 0), (3, rV 2 0), (5, iV ((((1 + (kA (y9 kR (kO l) 4) 3)) : Nat) : Int) - ↑i2)), (6, sV .i64 (yP (kQ l i2)) (ka0 (yP (kQ l i2)))), (7, bV false), (56, oV 6 0 q 1), (57, uV q), (58, iV 0)] trivial ?_
   refine AW.block ?_
   refine qF 1 hcx (fun (x : {x : Nat × Bool // match x with | (j, f) => (j ≤ q) ∧ (oH (ka5 j ms) (yP (kQ l i2)) = f)}) => match x with | ⟨(j, f), _⟩ => (⟨[(0, rV 0 0), (2, rV 1 0), (3, rV 2 0), (5, iV ((((1 + (kA (y9 kR (kO l) 4) 3)) : Nat) : Int) - (i2 : Int))), (6, sV .i64 (yP (kQ l i2)) (ka0 (yP (kQ l i2)))), (7, u1 (D.lit (.bool (f)))), (56, oV 6 0 q 1), (57, uV q), (58, uV j)], [(0, some (70, (vY l i2))), (1, some (63, u3)), (2, some (63, (aC y l q))), (6, some (38, .ds (kK ms)))], 7⟩ : ES)) (fun x => match x with | ⟨(j, f), _⟩ => q - j) ⟨((0 : Nat), (false : Bool)), ⟨dL, (v3j _ _)⟩⟩ [] (P := (kH 0) ∧ (kH 0) ∧ (kH 0) ∧ (kP ((((1 + (kA (y9 kR (kO l) 4) 3)) : Nat) : Int) - (i2 : Int))) ∧ (kM (dI .i64 (yP (kQ l i2)))) ∧ (kH (ka0 (yP (kQ l i2)))) ∧ ((false) = false) ∧ (kH 0) ∧ (kH q) ∧ (kP (q : Int)) ∧ (kP 0) ∧ (kM [db (kC (kQ l i2) 7) (ka0 (kC (kQ l i2) 7))]) ∧ (kM [iD 0, qQ, qQ, qQ]) ∧ (kP y) ∧ (kM (dI .i64 (vI l))) ∧ (kH (vM (aS uB (uA l) 5) (aN uB (uA l) 5))) ∧ (kH 0) ∧ (kH q) ∧ (kM (dI .i64 (vT l))) ∧ (kH (vM (aS kR (kO l) 4) (aN kR (kO l) 4))) ∧ (kM (kK ms))) zk ⟨rfl, rfl, rfl, rfl, rfl, rfl, m6, rfl, rfl, rfl, rfl, rfl, rfl, rfl, rfl, rfl, rfl, rfl, rfl, rfl, rfl⟩ ?_
   rintro ⟨⟨j, f⟩, hinv2⟩
   obtain ⟨hj, hf⟩ : (j ≤ q) ∧ (oH (ka5 j ms) (yP (kQ l i2)) = f) := hinv2
   refine uG (l := [(0, rV 0 0), (2, rV 1 0), (3, rV 2 0), (5, iV ((((1 + (kA (y9 kR (kO l) 4) 3)) : Nat) : Int) - (i2 : Int))), (6, sV .i64 (yP (kQ l i2)) (ka0 (yP (kQ l i2)))), (7, u1 (D.lit (.bool (f)))), (56, oV 6 0 q 1), (57, uV q), (58, uV j)]) (g := [(0, some (70, (vY l i2))), (1, some (63, u3)), (2, some (63, (aC y l q))), (6, some (38, .ds (kK ms)))]) (nx := 7) rfl rfl rfl ?_
   by_cases hx12 : (((j : Nat) : Int) < ((q : Nat) : Int))
   ·refine kI [.b true] (((j : Int) < (q : Int))) [(0, rV 0 0), (2, rV 1 0), (3, rV 2 0), (5, iV ((((1 + (kA (y9 kR (kO l) 4) 3)) : Nat) : Int) - ↑i2)), (6, sV .i64 (yP (kQ l i2)) (ka0 (yP (kQ l i2)))), (7, u1 (D.lit (.bool (f)))), (56, oV 6 0 q 1), (57, uV q), (58, uV j), (59, bV true)] [(0, some (70, (vY l i2))), (1, some (63, u3)), (2, some (63, (aC y l q))), (6, some (38, .ds (kK ms)))] 7 zo ?_
    refine AW.seq ?_
    refine vO ?_
    refine AW.seq ?_
    refine AW.block ?_
    have hx13 : ((ka0 (ka1 ms j ([] : List Int))) ≤ 1000000) := MsW.at (qJ : MsW ms) _
    refine kS [.n2 j j, .d (dl (ka1 ms j ([] : List Int)) (ka0 (ka1 ms j ([] : List Int)))), .no] ((kP (j : Int)) ∧ (j < q) ∧ ((0 : Nat) + j * 1 = j) ∧ ((kK ms)[j]? = some (dl (ka1 ms j ([] : List Int)) (ka0 (ka1 ms j ([] : List Int)))))) [(0, rV 0 0), (2, rV 1 0), (3, rV 2 0), (5, iV ((((1 + (kA (y9 kR (kO l) 4) 3)) : Nat) : Int) - ↑i2)), (6, sV .i64 (yP (kQ l i2)) (ka0 (yP (kQ l i2)))), (7, u1 (D.lit (.bool (f)))), (9, sV .i64 (ka1 ms j ([] : List Int)) (ka0 (ka1 ms j ([] : List Int)))), (56, oV 6 0 q 1), (57, uV q), (58, uV j)] ⟨rfl, zo, zo, (u1r _ _ (by first | omega | (simp only [kZ, kY, ka6, ka9, kb0, kb1, kb2] <;> omega)))⟩ ?_
    rcases Bool.eq_false_or_eq_true (f) with hx15 | hx15
    ·subst hx15
     have hx16 : 1 ≤ ka0 (ka1 ms j ([] : List Int)) := hN.at zo
     refine aB (qN 4 []) True [(0, rV 0 0), (2, rV 1 0), (3, rV 2 0), (5, iV ((((1 + (kA (y9 kR (kO l) 4) 3)) : Nat) : Int) - ↑i2)), (6, sV .i64 (yP (kQ l i2)) (ka0 (yP (kQ l i2)))), (7, bV true), (56, oV 6 0 q 1), (57, uV q), (58, uV j)] [(0, some (70, (vY l i2))), (1, some (63, u3)), (2, some (63, (aC y l q))), (6, some (38, .ds (kK ms)))] 7 trivial ?_
     refine yK [.w, .no] (yF ((j : Int) + 1)) [(0, rV 0 0), (2, rV 1 0), (3, rV 2 0), (5, iV ((((1 + (kA (y9 kR (kO l) 4) 3)) : Nat) : Int) - ↑i2)), (6, sV .i64 (yP (kQ l i2)) (ka0 (yP (kQ l i2)))), (7, bV true), (56, oV 6 0 q 1), (57, uV q), (58, iV (↑j + 1))] ⟨by omega, by omega⟩ ?_
     exact Rd.of ⟨(((j + 1) : Nat), (true : Bool)), ⟨dL, (by first | exact u19 zo hf | exact u1b zo zo | exact u1a zo hf zo)⟩⟩ [] (P := (kH 0) ∧ (kH 0) ∧ (kH 0) ∧ (kP ((((1 + (kA (y9 kR (kO l) 4) 3)) : Nat) : Int) - (i2 : Int))) ∧ (kM (dI .i64 (yP (kQ l i2)))) ∧ (kH (ka0 (yP (kQ l i2)))) ∧ ((true) = true) ∧ (kH 0) ∧ (kH q) ∧ (kP (q : Int)) ∧ (cU j) ∧ (kM [db (kC (kQ l i2) 7) (ka0 (kC (kQ l i2) 7))]) ∧ (kM [iD 0, qQ, qQ, qQ]) ∧ (kP y) ∧ (kM (dI .i64 (vI l))) ∧ (kH (vM (aS uB (uA l) 5) (aN uB (uA l) 5))) ∧ (kH 0) ∧ (kH q) ∧ (kM (dI .i64 (vT l))) ∧ (kH (vM (aS kR (kO l) 4) (aN kR (kO l) 4))) ∧ (kM (kK ms))) zk ⟨rfl, rfl, rfl, rfl, rfl, rfl, m6, rfl, rfl, rfl, eG, rfl, rfl, rfl, rfl, rfl, rfl, rfl, rfl, rfl, rfl⟩ (show q - (j + 1) < q - j from gZ)
    ·subst hx15
     by_cases hx18 : ((((ka0 (ka1 ms j ([] : List Int))) : Nat) : Int) = (((ka0 (yP (kQ l i2))) : Nat) : Int))
     ·by_cases hx20 : ((ka1 (ka1 ms j ([] : List Int)) 0 0) = (ka1 (yP (kQ l i2)) 0 0))
      ·have hx21 : 1 ≤ ka0 (ka1 ms j ([] : List Int)) := hN.at zo
       refine aB (qN 6 [.b true, .no, .no, .n 0, .d (D.lit (.int .i64 (ka1 (ka1 ms j ([] : List Int)) 0 0))), .no, .n 0, .d (D.lit (.int .i64 (ka1 (yP (kQ l i2)) 0 0))), .b true, .no, .no, .no]) ((((((ka0 (ka1 ms j ([] : List Int))) : Nat) : Int) = (ka0 (yP (kQ l i2)) : Int))) ∧ (kP 0) ∧ ((0 : Nat) < (ka0 (ka1 ms j ([] : List Int)))) ∧ ((ka3 0 (dI .i64 (ka1 ms j ([] : List Int))))[0]? = some (D.lit (.int .i64 (ka1 (ka1 ms j ([] : List Int)) 0 0)))) ∧ (kP 0) ∧ ((0 : Nat) < (ka0 (yP (kQ l i2)))) ∧ ((ka3 0 (dI .i64 (yP (kQ l i2))))[0]? = some (D.lit (.int .i64 (ka1 (yP (kQ l i2)) 0 0)))) ∧ (((ka1 (ka1 ms j ([] : List Int)) 0 0) = (ka1 (yP (kQ l i2)) 0 0)))) [(0, rV 0 0), (2, rV 1 0), (3, rV 2 0), (5, iV ((((1 + (kA (y9 kR (kO l) 4) 3)) : Nat) : Int) - ↑i2)), (6, sV .i64 (yP (kQ l i2)) (ka0 (yP (kQ l i2)))), (7, bV true), (56, oV 6 0 q 1), (57, uV q), (58, uV j)] [(0, some (70, (vY l i2))), (1, some (63, u3)), (2, some (63, (aC y l q))), (6, some (38, .ds (kK ms)))] 7 ⟨zo, rfl, zo, (yG _ _ _ eH), rfl, zo, (yG _ _ _ eH), zo⟩ ?_
       refine yK [.w, .no] (yF ((j : Int) + 1)) [(0, rV 0 0), (2, rV 1 0), (3, rV 2 0), (5, iV ((((1 + (kA (y9 kR (kO l) 4) 3)) : Nat) : Int) - ↑i2)), (6, sV .i64 (yP (kQ l i2)) (ka0 (yP (kQ l i2)))), (7, bV true), (56, oV 6 0 q 1), (57, uV q), (58, iV (↑j + 1))] ⟨by omega, by omega⟩ ?_
       exact Rd.of ⟨(((j + 1) : Nat), (true : Bool)), ⟨dL, (by first | exact u19 zo hf | exact u1b zo zo | exact u1a zo hf zo)⟩⟩ [] (P := (kH 0) ∧ (kH 0) ∧ (kH 0) ∧ (kP ((((1 + (kA (y9 kR (kO l) 4) 3)) : Nat) : Int) - (i2 : Int))) ∧ (kM (dI .i64 (yP (kQ l i2)))) ∧ (kH (ka0 (yP (kQ l i2)))) ∧ ((true) = true) ∧ (kH 0) ∧ (kH q) ∧ (kP (q : Int)) ∧ (cU j) ∧ (kM [db (kC (kQ l i2) 7) (ka0 (kC (kQ l i2) 7))]) ∧ (kM [iD 0, qQ, qQ, qQ]) ∧ (kP y) ∧ (kM (dI .i64 (vI l))) ∧ (kH (vM (aS uB (uA l) 5) (aN uB (uA l) 5))) ∧ (kH 0) ∧ (kH q) ∧ (kM (dI .i64 (vT l))) ∧ (kH (vM (aS kR (kO l) 4) (aN kR (kO l) 4))) ∧ (kM (kK ms))) zk ⟨rfl, rfl, rfl, rfl, rfl, rfl, m6, rfl, rfl, rfl, eG, rfl, rfl, rfl, rfl, rfl, rfl, rfl, rfl, rfl, rfl⟩ (show q - (j + 1) < q - j from gZ)
      ·have hx22 : 1 ≤ ka0 (ka1 ms j ([] : List Int)) := hN.at zo
       refine aB (qN 6 [.b true, .no, .no, .n 0, .d (D.lit (.int .i64 (ka1 (ka1 ms j ([] : List Int)) 0 0))), .no, .n 0, .d (D.lit (.int .i64 (ka1 (yP (kQ l i2)) 0 0))), .b false, .no, .no, .no]) ((((((ka0 (ka1 ms j ([] : List Int))) : Nat) : Int) = (ka0 (yP (kQ l i2)) : Int))) ∧ (kP 0) ∧ ((0 : Nat) < (ka0 (ka1 ms j ([] : List Int)))) ∧ ((ka3 0 (dI .i64 (ka1 ms j ([] : List Int))))[0]? = some (D.lit (.int .i64 (ka1 (ka1 ms j ([] : List Int)) 0 0)))) ∧ (kP 0) ∧ ((0 : Nat) < (ka0 (yP (kQ l i2)))) ∧ ((ka3 0 (dI .i64 (yP (kQ l i2))))[0]? = some (D.lit (.int .i64 (ka1 (yP (kQ l i2)) 0 0)))) ∧ (¬ ((ka1 (ka1 ms j ([] : List Int)) 0 0) = (ka1 (yP (kQ l i2)) 0 0)))) [(0, rV 0 0), (2, rV 1 0), (3, rV 2 0), (5, iV ((((1 + (kA (y9 kR (kO l) 4) 3)) : Nat) : Int) - ↑i2)), (6, sV .i64 (yP (kQ l i2)) (ka0 (yP (kQ l i2)))), (7, bV false), (56, oV 6 0 q 1), (57, uV q), (58, uV j)] [(0, some (70, (vY l i2))), (1, some (63, u3)), (2, some (63, (aC y l q))), (6, some (38, .ds (kK ms)))] 7 ⟨zo, rfl, zo, (yG _ _ _ eH), rfl, zo, (yG _ _ _ eH), zo⟩ ?_
       refine yK [.w, .no] (yF ((j : Int) + 1)) [(0, rV 0 0), (2, rV 1 0), (3, rV 2 0), (5, iV ((((1 + (kA (y9 kR (kO l) 4) 3)) : Nat) : Int) - ↑i2)), (6, sV .i64 (yP (kQ l i2)) (ka0 (yP (kQ l i2)))), (7, bV false), (56, oV 6 0 q 1), (57, uV q), (58, iV (↑j + 1))] ⟨by omega, by omega⟩ ?_
       exact Rd.of ⟨(((j + 1) : Nat), (false : Bool)), ⟨dL, (by first | exact u19 zo hf | exact u1b zo zo | exact u1a zo hf zo)⟩⟩ [] (P := (kH 0) ∧ (kH 0) ∧ (kH 0) ∧ (kP ((((1 + (kA (y9 kR (kO l) 4) 3)) : Nat) : Int) - (i2 : Int))) ∧ (kM (dI .i64 (yP (kQ l i2)))) ∧ (kH (ka0 (yP (kQ l i2)))) ∧ ((false) = false) ∧ (kH 0) ∧ (kH q) ∧ (kP (q : Int)) ∧ (cU j) ∧ (kM [db (kC (kQ l i2) 7) (ka0 (kC (kQ l i2) 7))]) ∧ (kM [iD 0, qQ, qQ, qQ]) ∧ (kP y) ∧ (kM (dI .i64 (vI l))) ∧ (kH (vM (aS uB (uA l) 5) (aN uB (uA l) 5))) ∧ (kH 0) ∧ (kH q) ∧ (kM (dI .i64 (vT l))) ∧ (kH (vM (aS kR (kO l) 4) (aN kR (kO l) 4))) ∧ (kM (kK ms))) zk ⟨rfl, rfl, rfl, rfl, rfl, rfl, m6, rfl, rfl, rfl, eG, rfl, rfl, rfl, rfl, rfl, rfl, rfl, rfl, rfl, rfl⟩ (show q - (j + 1) < q - j from gZ)
     ·have hx23 : 1 ≤ ka0 (ka1 ms j ([] : List Int)) := hN.at zo
      refine aB (qN 6 (.b false :: qN 4 [])) (¬ ((((ka0 (ka1 ms j ([] : List Int))) : Nat) : Int) = (ka0 (yP (kQ l i2)) : Int))) [(0, rV 0 0), (2, rV 1 0), (3, rV 2 0), (5, iV ((((1 + (kA (y9 kR (kO l) 4) 3)) : Nat) : Int) - ↑i2)), (6, sV .i64 (yP (kQ l i2)) (ka0 (yP (kQ l i2)))), (7, bV false), (56, oV 6 0 q 1), (57, uV q), (58, uV j)] [(0, some (70, (vY l i2))), (1, some (63, u3)), (2, some (63, (aC y l q))), (6, some (38, .ds (kK ms)))] 7 zo ?_
      refine yK [.w, .no] (yF ((j : Int) + 1)) [(0, rV 0 0), (2, rV 1 0), (3, rV 2 0), (5, iV ((((1 + (kA (y9 kR (kO l) 4) 3)) : Nat) : Int) - ↑i2)), (6, sV .i64 (yP (kQ l i2)) (ka0 (yP (kQ l i2)))), (7, bV false), (56, oV 6 0 q 1), (57, uV q), (58, iV (↑j + 1))] ⟨by omega, by omega⟩ ?_
      exact Rd.of ⟨(((j + 1) : Nat), (false : Bool)), ⟨dL, (by first | exact u19 zo hf | exact u1b zo zo | exact u1a zo hf zo)⟩⟩ [] (P := (kH 0) ∧ (kH 0) ∧ (kH 0) ∧ (kP ((((1 + (kA (y9 kR (kO l) 4) 3)) : Nat) : Int) - (i2 : Int))) ∧ (kM (dI .i64 (yP (kQ l i2)))) ∧ (kH (ka0 (yP (kQ l i2)))) ∧ ((false) = false) ∧ (kH 0) ∧ (kH q) ∧ (kP (q : Int)) ∧ (cU j) ∧ (kM [db (kC (kQ l i2) 7) (ka0 (kC (kQ l i2) 7))]) ∧ (kM [iD 0, qQ, qQ, qQ]) ∧ (kP y) ∧ (kM (dI .i64 (vI l))) ∧ (kH (vM (aS uB (uA l) 5) (aN uB (uA l) 5))) ∧ (kH 0) ∧ (kH q) ∧ (kM (dI .i64 (vT l))) ∧ (kH (vM (aS kR (kO l) 4) (aN kR (kO l) 4))) ∧ (kM (kK ms))) zk ⟨rfl, rfl, rfl, rfl, rfl, rfl, m6, rfl, rfl, rfl, eG, rfl, rfl, rfl, rfl, rfl, rfl, rfl, rfl, rfl, rfl⟩ (show q - (j + 1) < q - j from gZ)
   ·refine kI [.b false] (¬ ((j : Int) < (q : Int))) [(0, rV 0 0), (2, rV 1 0), (3, rV 2 0), (5, iV ((((1 + (kA (y9 kR (kO l) 4) 3)) : Nat) : Int) - ↑i2)), (6, sV .i64 (yP (kQ l i2)) (ka0 (yP (kQ l i2)))), (7, u1 (D.lit (.bool (f)))), (56, oV 6 0 q 1), (57, uV q), (58, uV j), (59, bV false)] [(0, some (70, (vY l i2))), (1, some (63, u3)), (2, some (63, (aC y l q))), (6, some (38, .ds (kK ms)))] 7 zo ?_
    refine AW.seq ?_
    refine zf ?_
    refine AW.exit ?_
    rcases Bool.eq_false_or_eq_true (f) with hx24 | hx24
    ·subst hx24
     refine kI [.no, .no] True [(0, rV 0 0), (2, rV 1 0), (3, rV 2 0), (5, iV ((((1 + (kA (y9 kR (kO l) 4) 3)) : Nat) : Int) - ↑i2)), (6, sV .i64 (yP (kQ l i2)) (ka0 (yP (kQ l i2)))), (81, bV false)] [(0, some (70, (vY l i2))), (1, some (63, u3)), (2, some (63, (aC y l q))), (6, some (38, .ds (kK ms)))] 7 trivial ?_
     refine u9 ?_
     refine yK [.no, .w, .no] ((-9223372036854775808) ≤ (((((1 + (kA (y9 kR (kO l) 4) 3)) : Nat) : Int) - (i2 : Int)) - 1) ∧ (((((1 + (kA (y9 kR (kO l) 4) 3)) : Nat) : Int) - (i2 : Int)) - 1) ≤ 9223372036854775807) [(0, rV 0 0), (2, rV 1 0), (3, rV 2 0), (5, iV (((((1 + (kA (y9 kR (kO l) 4) 3)) : Nat) : Int) - ↑i2) - 1))] ⟨by omega, by omega⟩ ?_
     exact Rd.of ⟨(((i2 + 1) : Nat), (q : Nat), (ms : List (List Int))), ⟨dL, (by first | exact v0w hm (r6 hq.1 zo hf) | exact v0z hm (r6 hq.1 zo hf)), (by first | omega | (simp only [kZ, kY, ka6, ka9, kb0] <;> omega)), (by first | assumption | exact hN.snoc zo), (by first | assumption | exact hW.snoc (ke0 (sY _) zo))⟩⟩ [] (P := (kH 0) ∧ (kH 0) ∧ (kH 0) ∧ ((((((1 + (kA (y9 kR (kO l) 4) 3)) : Nat) : Int) - (((i2 + 1) : Nat) : Int)) : Int) = (((((1 + (kA (y9 kR (kO l) 4) 3)) : Nat) : Int) - (i2 : Int)) - 1)) ∧ (([db (oJ (yT l) (i2 + 1)) (ka0 (oJ (yT l) (i2 + 1)))] : List D) = [db (kC (kQ l i2) 7) (ka0 (kC (kQ l i2) 7))]) ∧ (kM [iD 0, qQ, qQ, qQ]) ∧ (kP y) ∧ (kM (dI .i64 (vI l))) ∧ (kH (vM (aS uB (uA l) 5) (aN uB (uA l) 5))) ∧ (kH 0) ∧ (kH q) ∧ (kM (dI .i64 (vT l))) ∧ (kH (vM (aS kR (kO l) 4) (aN kR (kO l) 4))) ∧ (kM (kK ms))) zk ⟨rfl, rfl, rfl, eG, (by first | rfl | with_reducible assumption), rfl, rfl, rfl, rfl, rfl, rfl, rfl, rfl, rfl⟩ (show 1 + kA (y9 kR (kO l) 4) 3 - (i2 + 1) < 1 + kA (y9 kR (kO l) 4) 3 - i2 from gZ)
    ·subst hx24
     refine kI [.no, .no] True [(0, rV 0 0), (2, rV 1 0), (3, rV 2 0), (5, iV ((((1 + (kA (y9 kR (kO l) 4) 3)) : Nat) : Int) - ↑i2)), (6, sV .i64 (yP (kQ l i2)) (ka0 (yP (kQ l i2)))), (81, bV true)] [(0, some (70, (vY l i2))), (1, some (63, u3)), (2, some (63, (aC y l q))), (6, some (38, .ds (kK ms)))] 7 trivial ?_
     refine zt ?_
     refine aB (qN 4 [.ap none (q + 1) (kK (ms ++ ([(yP (kQ l i2))] : List (List Int)))), .no, .no]) (([dl (yP (kQ l i2)) (ka0 (yP (kQ l i2)))].length = 1 * 1) ∧ (((kK ms) : List D).length = q * 1) ∧ ((q + 1) * 24 ≤ 140737488355328) ∧ (q + 1 = (q + 1)) ∧ (((kK ms) : List D) ++ [dl (yP (kQ l i2)) (ka0 (yP (kQ l i2)))] = (kK (ms ++ ([(yP (kQ l i2))] : List (List Int)))))) [(0, rV 0 0), (2, rV 1 0), (3, rV 2 0), (5, iV ((((1 + (kA (y9 kR (kO l) 4) 3)) : Nat) : Int) - ↑i2))] [(0, some (70, (vY l i2))), (1, some (63, u3)), (2, some (63, .cs [iC y, .d (dl (vI l) (vM (aS uB (uA l) 5) (aN uB (uA l) 5))), .own 8 0 (q + 1) 1 true, .d (dl (vT l) (vM (aS kR (kO l) 4) (aN kR (kO l) 4)))])), (8, some (38, .ds (kK (ms ++ ([(yP (kQ l i2))] : List (List Int))))))] 9 ⟨eH, eH, zo, zo, (sR ms (yP (kQ l i2)) (ka0 (yP (kQ l i2))) (by first | rfl | omega))⟩ ?_
     refine yK [.no, .w, .no] ((-9223372036854775808) ≤ (((((1 + (kA (y9 kR (kO l) 4) 3)) : Nat) : Int) - (i2 : Int)) - 1) ∧ (((((1 + (kA (y9 kR (kO l) 4) 3)) : Nat) : Int) - (i2 : Int)) - 1) ≤ 9223372036854775807) [(0, rV 0 0), (2, rV 1 0), (3, rV 2 0), (5, iV (((((1 + (kA (y9 kR (kO l) 4) 3)) : Nat) : Int) - ↑i2) - 1))] ⟨by omega, by omega⟩ ?_
     exact Rd.of ⟨(((i2 + 1) : Nat), ((q + 1) : Nat), ((ms ++ ([(yP (kQ l i2))] : List (List Int))) : List (List Int))), ⟨dL, (by first | exact v0w hm (r6 hq.1 zo hf) | exact v0z hm (r6 hq.1 zo hf)), (by first | omega | (simp only [kZ, kY, ka6, ka9, kb0] <;> omega)), (by first | assumption | exact hN.snoc zo), (by first | assumption | exact hW.snoc (ke0 (sY _) zo))⟩⟩ [(6, 8)] (P := (kH 0) ∧ (kH 0) ∧ (kH 0) ∧ ((((((1 + (kA (y9 kR (kO l) 4) 3)) : Nat) : Int) - (((i2 + 1) : Nat) : Int)) : Int) = (((((1 + (kA (y9 kR (kO l) 4) 3)) : Nat) : Int) - (i2 : Int)) - 1)) ∧ (([db (oJ (yT l) (i2 + 1)) (ka0 (oJ (yT l) (i2 + 1)))] : List D) = [db (kC (kQ l i2) 7) (ka0 (kC (kQ l i2) 7))]) ∧ (kM [iD 0, qQ, qQ, qQ]) ∧ (kP y) ∧ (kM (dI .i64 (vI l))) ∧ (kH (vM (aS uB (uA l) 5) (aN uB (uA l) 5))) ∧ (kH 0) ∧ (kH (q + 1)) ∧ (kM (dI .i64 (vT l))) ∧ (kH (vM (aS kR (kO l) 4) (aN kR (kO l) 4))) ∧ (kM (kK (ms ++ ([(yP (kQ l i2))] : List (List Int)))))) zk ⟨rfl, rfl, rfl, eG, (by first | rfl | with_reducible assumption), rfl, rfl, rfl, rfl, rfl, rfl, rfl, rfl, rfl⟩ (show 1 + kA (y9 kR (kO l) 4) 3 - (i2 + 1) < 1 + kA (y9 kR (kO l) 4) 3 - i2 from gZ)
  ·refine kI [.no, .b false] (¬ ((0 : Int) < ((((1 + (kA (y9 kR (kO l) 4) 3)) : Nat) : Int) - (i2 : Int)))) [(0, rV 0 0), (2, rV 1 0), (3, rV 2 0), (5, iV ((((1 + (kA (y9 kR (kO l) 4) 3)) : Nat) : Int) - ↑i2)), (50, bV false)] [(0, some (70, .ds [db (kQ l i2) (ka0 (kQ l i2))])), (1, some (63, u3)), (2, some (63, (aC y l q))), (6, some (38, .ds (kK ms)))] 7 zo ?_
   refine zf ?_
   refine AW.exit ?_
   refine kI [.no, .no] True [(2, rV 1 0)] [(0, some (70, .ds [db (kQ l i2) (ka0 (kQ l i2))])), (1, some (63, (aC y l q))), (6, some (38, .ds (kK ms)))] 7 trivial ?_
   obtain rfl : i2 = (1 + (kA (y9 kR (kO l) 4) 3)) := (by omega)
   refine AW.freeze 6 (l' := [(2, rV 1 0)]) (g' := [(0, some (70, .ds [db (oJ (yT l) (1 + (kA (y9 kR (kO l) 4) 3))) (ka0 (oJ (yT l) (1 + (kA (y9 kR (kO l) 4) 3))))])), (1, some (63, .ds [iD y, dl (vI l) (vM (aS uB (uA l) 5) (aN uB (uA l) 5)), D.sl (kK ms) q, dl (vT l) (vM (aS kR (kO l) 4) (aN kR (kO l) 4))]))]) rfl (FzS.cons rfl (.same _) FzS.nil) (yH rfl rfl (FzG.to (bc := .cs [iC y, .d (dl (vI l) (vM (aS uB (uA l) 5) (aN uB (uA l) 5))), .own 6 0 q 1 true, .d (dl (vT l) (vM (aS kR (kO l) 4) (aN kR (kO l) 4)))]) rfl (by rfl) (FzL.cons (.same _) (FzL.cons (.same _) (FzL.cons (@FzC.own 6 ((kK ms) : List D) 0 q 1 true ((kK ms) : List D) (by rw [List.drop_zero, kc7, kb9 (by first | omega | (simp only [kZ, kY, qV, ka6, ka9, kb0, kb1, kb2, kb4, kb8, kc3, kc1, kc7] <;> omega))]) eH) (FzL.cons (.same _) FzL.nil)))) FzG.nil)) ?_
   have hz1 : zQ l = y := hy
   have hz2 : mA l = ms := hm
   refine AW.ret ?_
   exact EndP.of (.inr rfl) [] (P := (((zQ l) : Int) = y) ∧ (((dI .i64 (zP l)) : List D) = (dI .i64 (vI l))) ∧ (((wM l) : Nat) = (vM (aS uB (uA l) 5) (aN uB (uA l) 5))) ∧ (((kK (mA l)) : List D) = (kK ms)) ∧ (((ka0 (mA l)) : Nat) = q) ∧ (((dI .i64 (zO l)) : List D) = (dI .i64 (vT l))) ∧ (((wL l) : Nat) = (vM (aS kR (kO l) 4) (aN kR (kO l) 4))) ∧ (([db (boD l) (ka0 (boD l))] : List D) = [db (oJ (yT l) (1 + (kA (y9 kR (kO l) 4) 3))) (ka0 (oJ (yT l) (1 + (kA (y9 kR (kO l) 4) 3))))])) zk ⟨(by first | rfl | exact hz1 | (rw [hz2]; omega) | omega), (by first | rfl | (rw [hz2]; done) | (rw [hz2]; rfl)), (by first | rfl | exact hz1 | (rw [hz2]; omega) | omega), (by first | rfl | (rw [hz2]; done) | (rw [hz2]; rfl)), (by first | rfl | exact hz1 | (rw [hz2]; omega) | omega), (by first | rfl | (rw [hz2]; done) | (rw [hz2]; rfl)), (by first | rfl | exact hz1 | (rw [hz2]; omega) | omega), (by first | rfl | (rw [hz2]; done) | (rw [hz2]; rfl))⟩
end Go.Proofs.YtbicifcgghmhaaaGreat
