/- What is read in a row. No statement is proved here. -/
import Derived.Test.YtalbpleglapihaaZD11B
namespace Go.Proofs.Ytalbpleglapihaa
open Go.ChangeShapes Go.WideShapes Go.ChangeAt Go.RowKit
open List renaming append_nil → kc8, drop_zero → kd2, length → ka1, length_append → ka4, length_cons → kb1, length_drop → kb2, length_map → kd0, length_nil → kb6, length_replicate → kb4, length_reverse → kc7, length_set → kc2, length_take → kb3, take_of_length_le → kc3
open Nat renaming le_of_ble_eq_true → ka5, le_trans → ke9, mul_one → kc4
set_option linter.unusedVariables false
set_option linter.unusedSimpArgs false
/-! chapter 11: what is read in a row -/
set_option maxHeartbeats 4000000
set_option maxRecDepth 100000
def nQ (f : RS → RS) : Nat → RS → RS
  | 0, u => u
  | n + 1, u => if kU u = 0 then nQ f n (f u) else u
def xO {α : Type} (f : RS → RS) (v : RS → List α) : Nat → RS → List α
  | 0, _ => []
  | n + 1, u => if kU u = 0 then v u ++ xO f v n (f u) else []
theorem rI {f : RS → RS} {n : Nat} {u : RS} (h : kU u = 0) : nQ f (n + 1) u = nQ f n (f u) := if_pos h
theorem k2k {f : RS → RS} {n : Nat} {u : RS} (h : ¬ kU u = 0) : nQ f n u = u := by
  cases n with
  | zero => rfl
  | succ n => exact if_neg h
theorem xN {α : Type} {f : RS → RS} {v : RS → List α} {n : Nat} {u : RS} (h : kU u = 0) : xO f v (n + 1) u = v u ++ xO f v n (f u) := if_pos h
theorem k2j {α : Type} {f : RS → RS} {v : RS → List α} {n : Nat} {u : RS} (h : ¬ kU u = 0) : xO f v n u = [] := by
  cases n with
  | zero => rfl
  | succ n => exact if_neg h
theorem i0 {f : RS → RS} {m : Nat} (hf : ∀ u, kL u ≤ m → kL (f u) ≤ m) : ∀ (n : Nat) (u : RS), kL u ≤ m → kL (nQ f n u) ≤ m
  | 0, u, h => h
  | n + 1, u, h => by
    by_cases hq : kU u = 0
    · rw [rI hq]; exact i0 hf n _ (hf u h)
    · rw [k2k hq]; exact h
theorem eE {α : Type} {f : RS → RS} {v : RS → List α} {s : Nat} (hv : ∀ u, (v u).length = s) : ∀ (n : Nat) (u : RS), ∃ c, c ≤ n ∧ (xO f v n u).length = c * s
  | 0, u => ⟨0, Nat.le_refl _, by rw [Nat.zero_mul]; rfl⟩
  | n + 1, u => by
    by_cases hq : kU u = 0
    · obtain ⟨c, h1, h2⟩ := eE hv n (f u)
      exact ⟨c + 1, by omega, by rw [xN hq, ka4, hv, h2, Nat.succ_mul]; omega⟩
    · exact ⟨0, by omega, by rw [k2j hq, Nat.zero_mul]; rfl⟩
theorem nP {α : Type} {f : RS → RS} {v : RS → List α} {p : α → Prop} (hv : ∀ u, ∀ x ∈ v u, p x) : ∀ (n : Nat) (u : RS), ∀ x ∈ xO f v n u, p x
  | 0, u, x, h => by cases h
  | n + 1, u, x, h => by
    by_cases hq : kU u = 0
    · rw [xN hq] at h
      rcases List.mem_append.1 h with h | h
      · exact hv u x h
      · exact nP hv n (f u) x h
    · rw [k2j hq] at h; cases h
def ItI {α : Type} (f : RS → RS) (v : RS → List α) (n0 : Nat) (u0 : RS) (k : Nat) (w : RS) (o : List α) : Prop := nQ f n0 u0 = nQ f k w ∧ xO f v n0 u0 = o ++ xO f v k w
theorem ItI.zero {α : Type} (f : RS → RS) (v : RS → List α) (n0 : Nat) (u0 : RS) : ItI f v n0 u0 n0 u0 [] := ⟨rfl, rfl⟩
theorem ItI.step {α : Type} {f : RS → RS} {v : RS → List α} {n0 : Nat} {u0 : RS} {k : Nat} {w : RS} {o : List α} (h : ItI f v n0 u0 k w o) (hk : 0 < k) (hq : kU w = 0) : ItI f v n0 u0 (k - 1) (f w) (o ++ v w) := by
  obtain ⟨k, rfl⟩ : ∃ j, k = j + 1 := ⟨k - 1, by omega⟩
  refine ⟨by rw [h.1, rI hq]; rfl, ?_⟩
  rw [h.2, xN hq, List.append_assoc]; rfl
theorem ItI.fin {α : Type} {f : RS → RS} {v : RS → List α} {n0 : Nat} {u0 : RS} {k : Nat} {w : RS} {o : List α} (h : ItI f v n0 u0 k w o) (hk : k = 0 ∨ ¬ kU w = 0) : nQ f n0 u0 = w ∧ xO f v n0 u0 = o := by
  rcases hk with rfl | hk
  · exact ⟨h.1, by rw [h.2]; exact kc8 _⟩
  · exact ⟨by rw [h.1, k2k hk], by rw [h.2, k2j hk, kc8]⟩
def seX (l : List Int) (w : RS) : List Int := [u7 l w, u7 l (kD 4 l w)]
def seF (l : List Int) (w : RS) : RS := kD 4 l (kD 4 l w)
def uW (l : List Int) (u : RS) : RS := nQ (seF l) (kV l u) (kD 2 l u)
def dZ (l : List Int) (u : RS) : List Int := xO (seF l) (seX l) (kV l u) (kD 2 l u)
def aJ (l : List Int) (u : RS) : Nat := ka1 (dZ l u) / 2
def SeI (l : List Int) (u : RS) (k : Nat) (w : RS) (o : List Int) : Prop := ItI (seF l) (seX l) (kV l u) (kD 2 l u) k w o
theorem SeI.zero (l : List Int) (u : RS) : SeI l u (kV l u) (kD 2 l u) [] := ItI.zero _ _ _ _
theorem SeI.step {l : List Int} {u : RS} {k : Nat} {w : RS} {o : List Int} (h : SeI l u k w o) (hk : 0 < k) (hq : kU w = 0) : SeI l u (k - 1) (kD 4 l (kD 4 l w)) (o ++ [u7 l w, u7 l (kD 4 l w)]) := ItI.step h hk hq
theorem SeI.fin {l : List Int} {u : RS} {k : Nat} {w : RS} {o : List Int} (h : SeI l u k w o) (hk : k = 0 ∨ ¬ kU w = 0) : uW l u = w ∧ dZ l u = o := ItI.fin h hk
theorem k5g {l : List Int} {u : RS} {o : List Int} {i : Nat} (h : dZ l u = o) (ho : ka1 o = i * 2) : aJ l u = i := by unfold aJ; rw [h, ho]; omega
theorem k98 {m : Nat} {l : List Int} (hm : l.length = m) (u : RS) (h : kL u ≤ m) : kL (seF l u) ≤ m := uX hm (uX hm h)
theorem m5 {m : Nat} {l : List Int} {u : RS} (hm : l.length = m) (hu : kL u ≤ m) : kL (uW l u) ≤ m := i0 (k98 hm) _ _ (uX hm hu)
theorem cV {l : List Int} (hy : Byt l) (u : RS) : ka1 (dZ l u) = aJ l u * 2 ∧ aJ l u ≤ 65535 := by
  obtain ⟨c, h1, h2⟩ := eE (f := seF l) (v := seX l) (s := 2) (fun _ => rfl) (kV l u) (kD 2 l u)
  have h3 := yE hy u
  have h4 : aJ l u = c := k5g rfl h2
  rw [h4]; exact ⟨h2, by omega⟩
def dcX (l : List Int) (w : RS) : List Int := [((kV l w : Nat) : Int)]
def eY (l : List Int) (u : RS) : RS := nQ (kD 2 l) (kV l u) (kD 2 l u)
def dH (l : List Int) (u : RS) : List Int := xO (kD 2 l) (dcX l) (kV l u) (kD 2 l u)
def DcI (l : List Int) (u : RS) (k : Nat) (w : RS) (o : List Int) : Prop := ItI (kD 2 l) (dcX l) (kV l u) (kD 2 l u) k w o
theorem DcI.zero (l : List Int) (u : RS) : DcI l u (kV l u) (kD 2 l u) [] := ItI.zero _ _ _ _
theorem DcI.step {l : List Int} {u : RS} {k : Nat} {w : RS} {o : List Int} (h : DcI l u k w o) (hk : 0 < k) (hq : kU w = 0) : DcI l u (k - 1) (kD 2 l w) (o ++ [((kV l w : Nat) : Int)]) := ItI.step h hk hq
theorem DcI.fin {l : List Int} {u : RS} {k : Nat} {w : RS} {o : List Int} (h : DcI l u k w o) (hk : k = 0 ∨ ¬ kU w = 0) : eY l u = w ∧ dH l u = o := ItI.fin h hk
theorem k4f {m : Nat} {l : List Int} {u : RS} (hm : l.length = m) (hu : kL u ≤ m) : kL (eY l u) ≤ m := i0 (fun _ h => uX hm h) _ _ (uX hm hu)
theorem xW {l : List Int} (hy : Byt l) (u : RS) : ka1 (dH l u) ≤ 65535 := by
  obtain ⟨c, h1, h2⟩ := eE (f := kD 2 l) (v := dcX l) (s := 1) (fun _ => rfl) (kV l u) (kD 2 l u)
  have h3 := yE hy u
  have h4 : ka1 (dH l u) = c * 1 := h2
  omega
def mzX (l : List Int) (w : RS) : List (List Int) := [dH l w]
def vT (l : List Int) (u : RS) : RS := nQ (eY l) (kV l u) (kD 2 l u)
def bZ (l : List Int) (u : RS) : List (List Int) := xO (eY l) (mzX l) (kV l u) (kD 2 l u)
def MzI (l : List Int) (u : RS) (k : Nat) (w : RS) (o : List (List Int)) : Prop := ItI (eY l) (mzX l) (kV l u) (kD 2 l u) k w o
theorem MzI.zero (l : List Int) (u : RS) : MzI l u (kV l u) (kD 2 l u) [] := ItI.zero _ _ _ _
theorem MzI.step {l : List Int} {u : RS} {k : Nat} {w : RS} {o : List (List Int)} (h : MzI l u k w o) (hk : 0 < k) (hq : kU w = 0) : MzI l u (k - 1) (eY l w) (o ++ [dH l w]) := ItI.step h hk hq
theorem MzI.fin {l : List Int} {u : RS} {k : Nat} {w : RS} {o : List (List Int)} (h : MzI l u k w o) (hk : k = 0 ∨ ¬ kU w = 0) : vT l u = w ∧ bZ l u = o := ItI.fin h hk
theorem k24 {m : Nat} {l : List Int} {u : RS} (hm : l.length = m) (hu : kL u ≤ m) : kL (vT l u) ≤ m := i0 (fun _ h => k4f hm h) _ _ (uX hm hu)
theorem xI {l : List Int} (hy : Byt l) (u : RS) : ka1 (bZ l u) ≤ 65535 := by
  obtain ⟨c, h1, h2⟩ := eE (f := eY l) (v := mzX l) (s := 1) (fun _ => rfl) (kV l u) (kD 2 l u)
  have h3 := yE hy u
  have h4 : ka1 (bZ l u) = c * 1 := h2
  omega
theorem k80 {l : List Int} (hy : Byt l) (u : RS) : MsW (bZ l u) := nP (p := fun x => ka1 x ≤ 1000000) (fun w x hx => by
  rw [List.mem_singleton.1 hx]; have := xW hy w; omega) _ _
def dbX (l : List Int) (w : RS) : List Bx := [cN ((kV l w : Nat) : Int) (dZ l (kD 2 l w)) (aJ l (kD 2 l w)) (bZ l (uW l (kD 2 l w))) (dZ l (vT l (uW l (kD 2 l w)))) (aJ l (vT l (uW l (kD 2 l w))))]
def dbF (l : List Int) (w : RS) : RS := uW l (vT l (uW l (kD 2 l w)))
def lW (l : List Int) (u : RS) : RS := nQ (dbF l) (kV l u) (kD 2 l u)
def yX (l : List Int) (u : RS) : List Bx := xO (dbF l) (dbX l) (kV l u) (kD 2 l u)
def DbI (l : List Int) (u : RS) (k : Nat) (w : RS) (o : List Bx) : Prop := ItI (dbF l) (dbX l) (kV l u) (kD 2 l u) k w o
theorem DbI.zero (l : List Int) (u : RS) : DbI l u (kV l u) (kD 2 l u) [] := ItI.zero _ _ _ _
theorem DbI.step {l : List Int} {u : RS} {k : Nat} {w : RS} {o : List Bx} (h : DbI l u k w o) (hk : 0 < k) (hq : kU w = 0) : DbI l u (k - 1) (uW l (vT l (uW l (kD 2 l w)))) (o ++ [cN ((kV l w : Nat) : Int) (dZ l (kD 2 l w)) (aJ l (kD 2 l w)) (bZ l (uW l (kD 2 l w))) (dZ l (vT l (uW l (kD 2 l w)))) (aJ l (vT l (uW l (kD 2 l w))))]) := ItI.step h hk hq
theorem DbI.fin {l : List Int} {u : RS} {k : Nat} {w : RS} {o : List Bx} (h : DbI l u k w o) (hk : k = 0 ∨ ¬ kU w = 0) : lW l u = w ∧ yX l u = o := ItI.fin h hk
theorem k4h {m : Nat} {l : List Int} {u : RS} (hm : l.length = m) (hu : kL u ≤ m) : kL (lW l u) ≤ m := i0 (fun _ h => m5 hm (k24 hm (m5 hm (uX hm h)))) _ _ (uX hm hu)
theorem oH {l : List Int} (hy : Byt l) (u : RS) : ka1 (yX l u) ≤ 65535 := by
  obtain ⟨c, h1, h2⟩ := eE (f := dbF l) (v := dbX l) (s := 1) (fun _ => rfl) (kV l u) (kD 2 l u)
  have h3 := yE hy u
  have h4 : ka1 (yX l u) = c * 1 := h2
  omega
theorem u3t {l : List Int} (hy : Byt l) (w : RS) : BsW (dbX l w) := by
  refine BsW.one ?_
  have h1 := cV hy (kD 2 l w); have h2 := cV hy (vT l (uW l (kD 2 l w))); have h3 := xI hy (uW l (kD 2 l w))
  exact ⟨h1.1, h2.1, ke9 h1.2 (by omega), ke9 h2.2 (by omega), ke9 h3 (by omega), k80 hy _⟩
theorem k4g {l : List Int} (hy : Byt l) (u : RS) : BsW (yX l u) := nP (p := BxW) (fun w => u3t hy w) _ _
attribute [local irreducible] uW dZ aJ eY dH vT bZ lW yX kD kV u7
theorem uK {p : Prop} (h : p := by first | omega | with_reducible assumption | (simp only [kR, kO, pbL_len, ka4, kb1, kb6, kb3, kb2, kb4, kc2] <;> omega) | rfl | assumption) : p := h
theorem yS {p : Prop} (h : p := by first | omega | (simp only [kR, kO, pbL_len, qK, ka4, kb1, kb6, kb3, kb2, kb4, kc2, kd0, kc7, kc4] <;> omega) | rfl) : p := h
theorem mC {p : Prop} (h : p := by first | omega | (simp only [kR, kO, pbL_len, ka4, kb1, kb6] <;> omega)) : p := h
theorem mB {p : Prop} (h : p := by first | rfl | omega | assumption | (simp; done) | (simp; omega)) : p := h
theorem mD {p : Prop} (h : p := by rw [kd2, kc3 (by first | omega | (simp only [kR, kO, pbL_len, qK, ka4, kb1, kb6, kb3, kb2, kb4, kc2, kd0, kc7, kc4] <;> omega))]) : p := h
abbrev bJ (l : List Int) (m : Nat) (w : RS) : BC := .ds [D.sl (dI .u8 l) m, iD (((kL w) : Nat) : Int), iD (kU w)]
theorem k8x (l : List Int) (m : Nat) (u : RS) (hm : ka1 l = m) (hb : m ≤ 1000000) (hy : Byt l) (hu : kL u ≤ m) : Fun 57 [.c (.ptr 0 0)] (kG [(0, some (59, .ds [D.sl (dI .u8 l) m, iD (((kL u) : Nat) : Int), iD (kU u)]))]) 1 (.e (.agg [.d (D.sl (dI .i64 (dZ l u)) (aJ l u))])) (kG [(0, some (59, .ds [D.sl (dI .u8 l) m, iD (((kL (uW l u)) : Nat) : Int), iD (kU (uW l u))]))]) 1 := by
  refine Fun.mk (n := 31) Try.func57 rfl rfl (ka5 rfl) ?_
  intro cx hcx
  refine kK [.no] True [(0, rV 0 0), (2, rV 1 0)] [(0, some (59, .ds [db l m, uD (kL u), iD (kU u)])), (1, some (75, .ds [qI]))] 2 trivial ?_
  refine kK [.no] True [(0, rV 0 0), (2, rV 1 0), (3, rV 2 0)] [(0, some (59, .ds [db l m, uD (kL u), iD (kU u)])), (1, some (75, .ds [qI])), (2, some (75, .ds [qI]))] 3 trivial ?_
  refine AW.seq ?_
  have hx1 : ((kL (kD 2 l u)) ≤ m) := (uX (zo) (uK))
  have hx2 : ((kV l u) ≤ 65535) := (yE (kP : Byt l) u)
  refine kK [.no, .call [0] (uV (kV l u)) [(0, some (59, .ds [db l m, uD (kL (kD 2 l u)), iD (kU (kD 2 l u))]))] 1 [] none, .no] _ [(0, rV 0 0), (2, rV 1 0), (3, rV 2 0), (4, uV (kV l u))] [(0, some (59, .ds [db l m, uD (kL (kD 2 l u)), iD (kU (kD 2 l u))])), (1, some (75, .ds [qI])), (2, some (75, .ds [qI]))] 3 (vG l m u zo zo (kP : Byt l) uK) ?_
  refine AW.block ?_
  refine l6 2 0 2 96 (cs' := [.own 3 0 0 2 true]) rfl rfl rfl ?_
  refine kW 1 hcx (fun (x : {x : Nat × Nat × RS × List Int // match x with | (k, i, w, o) => (SeI l u k w o) ∧ (ka1 o = i * 2 ∧ i + k ≤ 65535) ∧ (kL w ≤ m)}) => match x with | ⟨(k, i, w, o), _⟩ => (⟨[(0, rV 0 0), (2, rV 1 0), (3, rV 2 0), (4, uV k)], [(0, some (59, (bJ l m w))), (1, some (75, .ds [qI])), (2, some (75, .cs [.own 4 0 i 2 true])), (4, some (96, .ds (dI .i64 o)))], 5⟩ : ES)) (fun x => match x with | ⟨(k, i, w, o), _⟩ => k) ⟨(((kV l u) : Nat), (0 : Nat), ((kD 2 l u) : RS), (([] : List Int) : List Int)), ⟨(SeI.zero l u), ⟨rfl, by omega⟩, zo⟩⟩ [(4, 3)] (P := (kN 0) ∧ (kN 0) ∧ (kN 0) ∧ (kM (kV l u : Int)) ∧ (k8 [db l m, uD (kL (kD 2 l u)), iD (kU (kD 2 l u))]) ∧ (k8 [qI]) ∧ (kN 0) ∧ (kN 0) ∧ (((dI .i64 ([] : List Int)) : List D) = ([] : List D))) zk ⟨rfl, rfl, rfl, rfl, rfl, rfl, rfl, rfl, (by first | rfl | with_reducible assumption)⟩ ?_
  rintro ⟨⟨k, i, w, o⟩, hinv0⟩
  obtain ⟨hI, ho, hw⟩ : (SeI l u k w o) ∧ (ka1 o = i * 2 ∧ i + k ≤ 65535) ∧ (kL w ≤ m) := hinv0
  refine uH (l := [(0, rV 0 0), (2, rV 1 0), (3, rV 2 0), (4, uV k)]) (g := [(0, some (59, (bJ l m w))), (1, some (75, .ds [qI])), (2, some (75, .cs [.own 4 0 i 2 true])), (4, some (96, .ds (dI .i64 o)))]) (nx := 5) rfl rfl rfl ?_
  refine AW.seq ?_
  by_cases hx3 : ((0 : Int) < ((k : Nat) : Int))
  · by_cases hx4 : ((kU w) = 0)
    · refine zr (.no :: .b true :: kS 5 [.b true, .no]) [0, 2, 3, 4, 16] [0, 1, 2, 4] ((((0 : Int) < (k : Int))) ∧ (((kU w) = 0))) [(0, rV 0 0), (2, rV 1 0), (3, rV 2 0), (4, uV k), (16, bV true)] [(0, some (59, (bJ l m w))), (1, some (75, .ds [qI])), (2, some (75, .cs [.own 4 0 i 2 true])), (4, some (96, .ds (dI .i64 o)))] 5 ⟨zo, zo⟩ ?_
      refine vD ?_
      refine AW.seq ?_
      refine AW.block ?_
      have hx5 : ((kL (kD 4 l w)) ≤ m) := (uX (zo) (uK))
      have hx6 : (((0 : Int) ≤ (u7 l w)) ∧ ((u7 l w) ≤ 4294967295)) := (mN (kP : Byt l) w)
      refine kK [.no, .call [0] (iV (u7 l w)) [(0, some (59, .ds [db l m, uD (kL (kD 4 l w)), iD (kU (kD 4 l w))]))] 1 [] none, .no] _ [(0, rV 0 0), (2, rV 1 0), (3, rV 2 0), (4, uV k), (5, iV (u7 l w))] [(0, some (59, .ds [db l m, uD (kL (kD 4 l w)), iD (kU (kD 4 l w))])), (1, some (75, .ds [qI])), (2, some (75, .cs [.own 4 0 i 2 true])), (4, some (96, .ds (dI .i64 o)))] 5 (oR l m w zo zo (kP : Byt l) uK) ?_
      have hx7 : ((kL (kD 4 l (kD 4 l w))) ≤ m) := (uX (zo) (uK))
      have hx8 : (((0 : Int) ≤ (u7 l (kD 4 l w))) ∧ ((u7 l (kD 4 l w)) ≤ 4294967295)) := (mN (kP : Byt l) (kD 4 l w))
      refine cB (kS 4 [.call [0] (iV (u7 l (kD 4 l w))) [(0, some (59, .ds [db l m, uD (kL (kD 4 l (kD 4 l w))), iD (kU (kD 4 l (kD 4 l w)))]))] 1 [] none, .no, .no, .ap none (i + 1) (dI .i64 (o ++ ([(u7 l w), (u7 l (kD 4 l w))] : List Int))), .no, .no]) ((_) ∧ ([iD (u7 l w), iD (u7 l (kD 4 l w))].length = 1 * 2) ∧ (((dI .i64 o) : List D).length = i * 2) ∧ ((i + 1) * 16 ≤ 140737488355328) ∧ (i + 1 = (i + 1)) ∧ (((dI .i64 o) : List D) ++ [iD (u7 l w), iD (u7 l (kD 4 l w))] = (dI .i64 (o ++ ([(u7 l w), (u7 l (kD 4 l w))] : List Int))))) [(0, rV 0 0), (2, rV 1 0), (3, rV 2 0), (4, uV k)] [(0, some (59, .ds [db l m, uD (kL (kD 4 l (kD 4 l w))), iD (kU (kD 4 l (kD 4 l w)))])), (1, some (75, .ds [qI])), (2, some (75, .cs [.own 6 0 (i + 1) 2 true])), (6, some (96, .ds (dI .i64 (o ++ ([(u7 l w), (u7 l (kD 4 l w))] : List Int)))))] 7 ⟨(oR l m (kD 4 l w) zo zo (kP : Byt l) uK), yS, yS, zo, zo, (qN .i64 o ([(u7 l w), (u7 l (kD 4 l w))] : List Int))⟩ ?_
      refine yD [.no, .w, .no] (qL ((k : Int) - 1)) [(0, rV 0 0), (2, rV 1 0), (3, rV 2 0), (4, iV (↑k - 1))] ⟨by omega, by omega⟩ ?_
      exact qS ⟨(((k - 1) : Nat), ((i + 1) : Nat), ((kD 4 l (kD 4 l w)) : RS), ((o ++ ([(u7 l w), (u7 l (kD 4 l w))] : List Int)) : List Int)), ⟨(hI.step zo zo), mC, zo⟩⟩ [(4, 6)] (P := (kN 0) ∧ (kN 0) ∧ (kN 0) ∧ (((((k - 1) : Nat) : Int) : Int) = ((k : Int) - 1)) ∧ (k8 [db l m, uD (kL (kD 4 l (kD 4 l w))), iD (kU (kD 4 l (kD 4 l w)))]) ∧ (k8 [qI]) ∧ (kN 0) ∧ (kN (i + 1)) ∧ (k8 (dI .i64 (o ++ ([(u7 l w), (u7 l (kD 4 l w))] : List Int))))) zk ⟨rfl, rfl, rfl, mB, rfl, rfl, rfl, rfl, rfl⟩ (show (k - 1) < k from (by first | omega | (show _ < _; simp; omega)))
    · refine zr (.no :: .b true :: kS 5 [.b false, .no]) [0, 2, 3, 4, 16] [0, 1, 2, 4] ((((0 : Int) < (k : Int))) ∧ (¬ ((kU w) = 0))) [(0, rV 0 0), (2, rV 1 0), (3, rV 2 0), (4, uV k), (16, bV false)] [(0, some (59, (bJ l m w))), (1, some (75, .ds [qI])), (2, some (75, .cs [.own 4 0 i 2 true])), (4, some (96, .ds (dI .i64 o)))] 5 ⟨zo, zo⟩ ?_
      refine zf ?_
      refine AW.exit ?_
      refine kK [.no, .no] True [(2, rV 1 0)] [(0, some (59, (bJ l m w))), (1, some (75, .cs [.own 4 0 i 2 true])), (4, some (96, .ds (dI .i64 o)))] 5 trivial ?_
      refine AW.freeze 4 (l' := [(2, rV 1 0)]) (g' := [(0, some (59, (bJ l m w))), (1, some (75, .ds [dl o i]))]) rfl (FzS.cons rfl (.same _) FzS.nil) (uO rfl rfl (FzG.to (bc := .cs [.own 4 0 i 2 true]) rfl (by rfl) (FzL.cons (@FzC.own 4 ((dI .i64 o) : List D) 0 i 2 true ((dI .i64 o) : List D) mD yS) FzL.nil) FzG.nil)) ?_
      obtain ⟨hz1, hz2⟩ := SeI.fin hI zo
      have hz3 : aJ l u = i := k5g hz2 (by omega)
      refine AW.ret ?_
      exact kC (.inr rfl) [] (P := (((dI .i64 (dZ l u)) : List D) = (dI .i64 o)) ∧ (((aJ l u) : Nat) = i) ∧ (([db l m, uD (kL (uW l u)), iD (kU (uW l u))] : List D) = [db l m, uD (kL w), iD (kU w)])) zk ⟨(by first | rfl | exact hz3 | (rw [hz1]; done) | (rw [hz2]; done) | (rw [hz2, hz3]; done) | omega | (rw [hz1]; rfl) | (rw [hz2, hz3]; rfl)), (by first | rfl | exact hz3 | (rw [hz1]; done) | (rw [hz2]; done) | (rw [hz2, hz3]; done) | omega | (rw [hz1]; rfl) | (rw [hz2, hz3]; rfl)), (by first | rfl | exact hz3 | (rw [hz1]; done) | (rw [hz2]; done) | (rw [hz2, hz3]; done) | omega | (rw [hz1]; rfl) | (rw [hz2, hz3]; rfl))⟩
  · refine zr [.no, .b false, .no, .no] [0, 2, 3, 4, 16] [0, 1, 2, 4] (¬ ((0 : Int) < (k : Int))) [(0, rV 0 0), (2, rV 1 0), (3, rV 2 0), (4, uV k), (16, bV false)] [(0, some (59, (bJ l m w))), (1, some (75, .ds [qI])), (2, some (75, .cs [.own 4 0 i 2 true])), (4, some (96, .ds (dI .i64 o)))] 5 zo ?_
    refine zf ?_
    refine AW.exit ?_
    refine kK [.no, .no] True [(2, rV 1 0)] [(0, some (59, (bJ l m w))), (1, some (75, .cs [.own 4 0 i 2 true])), (4, some (96, .ds (dI .i64 o)))] 5 trivial ?_
    refine AW.freeze 4 (l' := [(2, rV 1 0)]) (g' := [(0, some (59, (bJ l m w))), (1, some (75, .ds [dl o i]))]) rfl (FzS.cons rfl (.same _) FzS.nil) (uO rfl rfl (FzG.to (bc := .cs [.own 4 0 i 2 true]) rfl (by rfl) (FzL.cons (@FzC.own 4 ((dI .i64 o) : List D) 0 i 2 true ((dI .i64 o) : List D) mD yS) FzL.nil) FzG.nil)) ?_
    obtain ⟨hz1, hz2⟩ := SeI.fin hI zo
    have hz3 : aJ l u = i := k5g hz2 (by omega)
    refine AW.ret ?_
    exact kC (.inr rfl) [] (P := (((dI .i64 (dZ l u)) : List D) = (dI .i64 o)) ∧ (((aJ l u) : Nat) = i) ∧ (([db l m, uD (kL (uW l u)), iD (kU (uW l u))] : List D) = [db l m, uD (kL w), iD (kU w)])) zk ⟨(by first | rfl | exact hz3 | (rw [hz1]; done) | (rw [hz2]; done) | (rw [hz2, hz3]; done) | omega | (rw [hz1]; rfl) | (rw [hz2, hz3]; rfl)), (by first | rfl | exact hz3 | (rw [hz1]; done) | (rw [hz2]; done) | (rw [hz2, hz3]; done) | omega | (rw [hz1]; rfl) | (rw [hz2, hz3]; rfl)), (by first | rfl | exact hz3 | (rw [hz1]; done) | (rw [hz2]; done) | (rw [hz2, hz3]; done) | omega | (rw [hz1]; rfl) | (rw [hz2, hz3]; rfl))⟩
theorem mE {p : Prop} (h : p := by rw [kd2, kc4, kc3 (by first | omega | (simp only [kR, kO, pbL_len, qK, ka4, kb1, kb6, kb3, kb2, kb4, kc2, kd0, kc7, kc4] <;> omega))]) : p := h
abbrev bI (l : List Int) (m : Nat) (w : RS) : BC := .ds [D.sl (dI .u8 l) m, iD (((kL w) : Nat) : Int), iD (kU w)]
theorem u18 (l : List Int) (m : Nat) (u : RS) (hm : ka1 l = m) (hb : m ≤ 1000000) (hy : Byt l) (hu : kL u ≤ m) : Fun 70 [.c (.ptr 0 0)] (kG [(0, some (59, .ds [D.sl (dI .u8 l) m, iD (((kL u) : Nat) : Int), iD (kU u)]))]) 1 (sV .i64 (dH l u) (ka1 (dH l u))) (kG [(0, some (59, .ds [D.sl (dI .u8 l) m, iD (((kL (eY l u)) : Nat) : Int), iD (kU (eY l u))]))]) 1 := by
  refine Fun.mk (n := 24) Try.func70 rfl rfl (ka5 rfl) ?_
  intro cx hcx
  refine kK [.no] True [(0, rV 0 0)] [(0, some (59, .ds [db l m, uD (kL u), iD (kU u)]))] 1 trivial ?_
  refine kX [.no] True [(0, rV 0 0), (3, nV)] trivial ?_
  refine AW.seq ?_
  have hx1 : ((kL (kD 2 l u)) ≤ m) := (uX (zo) (uK))
  have hx2 : ((kV l u) ≤ 65535) := (yE (kP : Byt l) u)
  refine kK [.no, .call [0] (uV (kV l u)) [(0, some (59, .ds [db l m, uD (kL (kD 2 l u)), iD (kU (kD 2 l u))]))] 1 [] none, .no] _ [(0, rV 0 0), (3, nV), (4, uV (kV l u))] [(0, some (59, .ds [db l m, uD (kL (kD 2 l u)), iD (kU (kD 2 l u))]))] 1 (vG l m u zo zo (kP : Byt l) uK) ?_
  refine AW.block ?_
  refine AW.adoptS 3 1 3 rfl ?_
  refine kW 1 hcx (fun (x : {x : Nat × Nat × RS × List Int // match x with | (k, i, w, o) => (DcI l u k w o) ∧ (ka1 o = i * 1 ∧ i + k ≤ 65535) ∧ (kL w ≤ m)}) => match x with | ⟨(k, i, w, o), _⟩ => (⟨[(0, rV 0 0), (3, oV 2 0 i 1), (4, uV k)], [(0, some (59, (bI l m w))), (2, some (3, .ds (dI .i64 o)))], 3⟩ : ES)) (fun x => match x with | ⟨(k, i, w, o), _⟩ => k) ⟨(((kV l u) : Nat), (0 : Nat), ((kD 2 l u) : RS), (([] : List Int) : List Int)), ⟨(DcI.zero l u), ⟨rfl, by omega⟩, zo⟩⟩ [(2, 1)] (P := (kN 0) ∧ (kN 0) ∧ (kN 0) ∧ (kM (kV l u : Int)) ∧ (k8 [db l m, uD (kL (kD 2 l u)), iD (kU (kD 2 l u))]) ∧ (((dI .i64 ([] : List Int)) : List D) = ([] : List D))) zk ⟨rfl, rfl, rfl, rfl, rfl, (by first | rfl | with_reducible assumption)⟩ ?_
  rintro ⟨⟨k, i, w, o⟩, hinv0⟩
  obtain ⟨hI, ho, hw⟩ : (DcI l u k w o) ∧ (ka1 o = i * 1 ∧ i + k ≤ 65535) ∧ (kL w ≤ m) := hinv0
  refine uH (l := [(0, rV 0 0), (3, oV 2 0 i 1), (4, uV k)]) (g := [(0, some (59, (bI l m w))), (2, some (3, .ds (dI .i64 o)))]) (nx := 3) rfl rfl rfl ?_
  refine AW.seq ?_
  by_cases hx3 : ((0 : Int) < ((k : Nat) : Int))
  · by_cases hx4 : ((kU w) = 0)
    · refine zr (.no :: .b true :: kS 5 [.b true, .no]) [0, 3, 4, 15] [0, 2] ((((0 : Int) < (k : Int))) ∧ (((kU w) = 0))) [(0, rV 0 0), (3, oV 2 0 i 1), (4, uV k), (15, bV true)] [(0, some (59, (bI l m w))), (2, some (3, .ds (dI .i64 o)))] 3 ⟨zo, zo⟩ ?_
      refine vD ?_
      refine AW.seq ?_
      refine AW.block ?_
      have hx5 : ((kL (kD 2 l w)) ≤ m) := (uX (zo) (uK))
      have hx6 : ((kV l w) ≤ 65535) := (yE (kP : Byt l) w)
      refine cB [.no, .no, .call [0] (uV (kV l w)) [(0, some (59, .ds [db l m, uD (kL (kD 2 l w)), iD (kU (kD 2 l w))]))] 1 [] none, .no, .ap none (i + 1) (dI .i64 (o ++ ([(kV l w : Int)] : List Int))), .no] ((_) ∧ ([uD (kV l w)].length = 1 * 1) ∧ (((dI .i64 o) : List D).length = i * 1) ∧ ((i + 1) * 8 ≤ 140737488355328) ∧ (i + 1 = (i + 1)) ∧ (((dI .i64 o) : List D) ++ [uD (kV l w)] = (dI .i64 (o ++ ([(kV l w : Int)] : List Int))))) [(0, rV 0 0), (3, oV 4 0 (i + 1) 1), (4, uV k)] [(0, some (59, .ds [db l m, uD (kL (kD 2 l w)), iD (kU (kD 2 l w))])), (4, some (3, .ds (dI .i64 (o ++ ([(kV l w : Int)] : List Int)))))] 5 ⟨(vG l m w zo zo (kP : Byt l) uK), yS, yS, zo, zo, (qN .i64 o ([(kV l w : Int)] : List Int))⟩ ?_
      refine yD [.no, .w, .no] (qL ((k : Int) - 1)) [(0, rV 0 0), (3, oV 4 0 (i + 1) 1), (4, iV (↑k - 1))] ⟨by omega, by omega⟩ ?_
      exact qS ⟨(((k - 1) : Nat), ((i + 1) : Nat), ((kD 2 l w) : RS), ((o ++ ([(kV l w : Int)] : List Int)) : List Int)), ⟨(hI.step zo zo), mC, zo⟩⟩ [(2, 4)] (P := (kN 0) ∧ (kN 0) ∧ (kN (i + 1)) ∧ (((((k - 1) : Nat) : Int) : Int) = ((k : Int) - 1)) ∧ (k8 [db l m, uD (kL (kD 2 l w)), iD (kU (kD 2 l w))]) ∧ (k8 (dI .i64 (o ++ ([(kV l w : Int)] : List Int))))) zk ⟨rfl, rfl, rfl, mB, rfl, rfl⟩ (show (k - 1) < k from (by first | omega | (show _ < _; simp; omega)))
    · refine zr (.no :: .b true :: kS 5 [.b false, .no]) [0, 3, 4, 15] [0, 2] ((((0 : Int) < (k : Int))) ∧ (¬ ((kU w) = 0))) [(0, rV 0 0), (3, oV 2 0 i 1), (4, uV k), (15, bV false)] [(0, some (59, (bI l m w))), (2, some (3, .ds (dI .i64 o)))] 3 ⟨zo, zo⟩ ?_
      refine zf ?_
      refine AW.exit ?_
      refine kK [.no, .no] True [(2, oV 2 0 i 1)] [(0, some (59, (bI l m w))), (2, some (3, .ds (dI .i64 o)))] 3 trivial ?_
      refine AW.freeze 2 (l' := [(2, sV .i64 o i)]) (g' := [(0, some (59, (bI l m w)))]) rfl (FzS.cons rfl (.e (.c (@FzC.own 2 ((dI .i64 o) : List D) 0 i 1 true ((dI .i64 o) : List D) mE yS))) FzS.nil) (uO rfl rfl FzG.nil) ?_
      obtain ⟨hz1, hz2⟩ := DcI.fin hI zo
      have hz3 : ka1 (dH l u) = i := by rw [hz2]; omega
      refine AW.ret ?_
      exact kC (.inr rfl) [] (P := (((dI .i64 (dH l u)) : List D) = (dI .i64 o)) ∧ (((ka1 (dH l u)) : Nat) = i) ∧ (([db l m, uD (kL (eY l u)), iD (kU (eY l u))] : List D) = [db l m, uD (kL w), iD (kU w)])) zk ⟨(by first | rfl | exact hz3 | (rw [hz1]; done) | (rw [hz2]; done) | (rw [hz2, hz3]; done) | omega | (rw [hz1]; rfl) | (rw [hz2, hz3]; rfl)), (by first | rfl | exact hz3 | (rw [hz1]; done) | (rw [hz2]; done) | (rw [hz2, hz3]; done) | omega | (rw [hz1]; rfl) | (rw [hz2, hz3]; rfl)), (by first | rfl | exact hz3 | (rw [hz1]; done) | (rw [hz2]; done) | (rw [hz2, hz3]; done) | omega | (rw [hz1]; rfl) | (rw [hz2, hz3]; rfl))⟩
  · refine zr [.no, .b false, .no, .no] [0, 3, 4, 15] [0, 2] (¬ ((0 : Int) < (k : Int))) [(0, rV 0 0), (3, oV 2 0 i 1), (4, uV k), (15, bV false)] [(0, some (59, (bI l m w))), (2, some (3, .ds (dI .i64 o)))] 3 zo ?_
    refine zf ?_
    refine AW.exit ?_
    refine kK [.no, .no] True [(2, oV 2 0 i 1)] [(0, some (59, (bI l m w))), (2, some (3, .ds (dI .i64 o)))] 3 trivial ?_
    refine AW.freeze 2 (l' := [(2, sV .i64 o i)]) (g' := [(0, some (59, (bI l m w)))]) rfl (FzS.cons rfl (.e (.c (@FzC.own 2 ((dI .i64 o) : List D) 0 i 1 true ((dI .i64 o) : List D) mE yS))) FzS.nil) (uO rfl rfl FzG.nil) ?_
    obtain ⟨hz1, hz2⟩ := DcI.fin hI zo
    have hz3 : ka1 (dH l u) = i := by rw [hz2]; omega
    refine AW.ret ?_
    exact kC (.inr rfl) [] (P := (((dI .i64 (dH l u)) : List D) = (dI .i64 o)) ∧ (((ka1 (dH l u)) : Nat) = i) ∧ (([db l m, uD (kL (eY l u)), iD (kU (eY l u))] : List D) = [db l m, uD (kL w), iD (kU w)])) zk ⟨(by first | rfl | exact hz3 | (rw [hz1]; done) | (rw [hz2]; done) | (rw [hz2, hz3]; done) | omega | (rw [hz1]; rfl) | (rw [hz2, hz3]; rfl)), (by first | rfl | exact hz3 | (rw [hz1]; done) | (rw [hz2]; done) | (rw [hz2, hz3]; done) | omega | (rw [hz1]; rfl) | (rw [hz2, hz3]; rfl)), (by first | rfl | exact hz3 | (rw [hz1]; done) | (rw [hz2]; done) | (rw [hz2, hz3]; done) | omega | (rw [hz1]; rfl) | (rw [hz2, hz3]; rfl))⟩
abbrev bH (l : List Int) (m : Nat) (w : RS) : BC := .ds [D.sl (dI .u8 l) m, iD (((kL w) : Nat) : Int), iD (kU w)]
theorem u14 (l : List Int) (m : Nat) (u : RS) (hm : ka1 l = m) (hb : m ≤ 1000000) (hy : Byt l) (hu : kL u ≤ m) : Fun 58 [.c (.ptr 0 0)] (kG [(0, some (59, .ds [D.sl (dI .u8 l) m, iD (((kL u) : Nat) : Int), iD (kU u)]))]) 1 (qX (k9 (bZ l u)) (ka1 (bZ l u))) (kG [(0, some (59, .ds [D.sl (dI .u8 l) m, iD (((kL (vT l u)) : Nat) : Int), iD (kU (vT l u))]))]) 1 := by
  refine Fun.mk (n := 24) Try.func58 rfl rfl (ka5 rfl) ?_
  intro cx hcx
  refine kK [.no] True [(0, rV 0 0)] [(0, some (59, .ds [db l m, uD (kL u), iD (kU u)]))] 1 trivial ?_
  refine kX [.no] True [(0, rV 0 0), (3, nV)] trivial ?_
  refine AW.seq ?_
  have hx1 : ((kL (kD 2 l u)) ≤ m) := (uX (zo) (uK))
  have hx2 : ((kV l u) ≤ 65535) := (yE (kP : Byt l) u)
  refine kK [.no, .call [0] (uV (kV l u)) [(0, some (59, .ds [db l m, uD (kL (kD 2 l u)), iD (kU (kD 2 l u))]))] 1 [] none, .no] _ [(0, rV 0 0), (3, nV), (4, uV (kV l u))] [(0, some (59, .ds [db l m, uD (kL (kD 2 l u)), iD (kU (kD 2 l u))]))] 1 (vG l m u zo zo (kP : Byt l) uK) ?_
  refine AW.block ?_
  refine AW.adoptS 3 1 63 rfl ?_
  refine kW 1 hcx (fun (x : {x : Nat × Nat × RS × List (List Int) // match x with | (k, i, w, o) => (MzI l u k w o) ∧ (ka1 o = i * 1 ∧ i + k ≤ 65535) ∧ (kL w ≤ m)}) => match x with | ⟨(k, i, w, o), _⟩ => (⟨[(0, rV 0 0), (3, oV 2 0 i 1), (4, uV k)], [(0, some (59, (bH l m w))), (2, some (63, .ds (k9 o)))], 3⟩ : ES)) (fun x => match x with | ⟨(k, i, w, o), _⟩ => k) ⟨(((kV l u) : Nat), (0 : Nat), ((kD 2 l u) : RS), (([] : List (List Int)) : List (List Int))), ⟨(MzI.zero l u), ⟨rfl, by omega⟩, zo⟩⟩ [(2, 1)] (P := (kN 0) ∧ (kN 0) ∧ (kN 0) ∧ (kM (kV l u : Int)) ∧ (k8 [db l m, uD (kL (kD 2 l u)), iD (kU (kD 2 l u))]) ∧ (((k9 ([] : List (List Int))) : List D) = ([] : List D))) zk ⟨rfl, rfl, rfl, rfl, rfl, (by first | rfl | with_reducible assumption)⟩ ?_
  rintro ⟨⟨k, i, w, o⟩, hinv0⟩
  obtain ⟨hI, ho, hw⟩ : (MzI l u k w o) ∧ (ka1 o = i * 1 ∧ i + k ≤ 65535) ∧ (kL w ≤ m) := hinv0
  refine uH (l := [(0, rV 0 0), (3, oV 2 0 i 1), (4, uV k)]) (g := [(0, some (59, (bH l m w))), (2, some (63, .ds (k9 o)))]) (nx := 3) rfl rfl rfl ?_
  refine AW.seq ?_
  by_cases hx3 : ((0 : Int) < ((k : Nat) : Int))
  · by_cases hx4 : ((kU w) = 0)
    · refine zr (.no :: .b true :: kS 5 [.b true, .no]) [0, 3, 4, 15] [0, 2] ((((0 : Int) < (k : Int))) ∧ (((kU w) = 0))) [(0, rV 0 0), (3, oV 2 0 i 1), (4, uV k), (15, bV true)] [(0, some (59, (bH l m w))), (2, some (63, .ds (k9 o)))] 3 ⟨zo, zo⟩ ?_
      refine vD ?_
      refine AW.seq ?_
      refine AW.block ?_
      have hx5 : ((kL (eY l w)) ≤ m) := (k4f (zo) (uK))
      have hx6 : ((ka1 (dH l w)) ≤ 65535) := (xW (kP : Byt l) w)
      refine cB [.no, .no, .call [0] (sV .i64 (dH l w) (ka1 (dH l w))) [(0, some (59, .ds [db l m, uD (kL (eY l w)), iD (kU (eY l w))]))] 1 [] none, .no, .ap none (i + 1) (k9 (o ++ ([(dH l w)] : List (List Int)))), .no] ((_) ∧ ([dl (dH l w) (ka1 (dH l w))].length = 1 * 1) ∧ (((k9 o) : List D).length = i * 1) ∧ ((i + 1) * 24 ≤ 140737488355328) ∧ (i + 1 = (i + 1)) ∧ (((k9 o) : List D) ++ [dl (dH l w) (ka1 (dH l w))] = (k9 (o ++ ([(dH l w)] : List (List Int)))))) [(0, rV 0 0), (3, oV 4 0 (i + 1) 1), (4, uV k)] [(0, some (59, .ds [db l m, uD (kL (eY l w)), iD (kU (eY l w))])), (4, some (63, .ds (k9 (o ++ ([(dH l w)] : List (List Int))))))] 5 ⟨(u18 l m w zo zo (kP : Byt l) uK), yS, yS, zo, zo, (xJ o (dH l w) (ka1 (dH l w)) (by first | rfl | omega))⟩ ?_
      refine yD [.no, .w, .no] (qL ((k : Int) - 1)) [(0, rV 0 0), (3, oV 4 0 (i + 1) 1), (4, iV (↑k - 1))] ⟨by omega, by omega⟩ ?_
      exact qS ⟨(((k - 1) : Nat), ((i + 1) : Nat), ((eY l w) : RS), ((o ++ ([(dH l w)] : List (List Int))) : List (List Int))), ⟨(hI.step zo zo), mC, zo⟩⟩ [(2, 4)] (P := (kN 0) ∧ (kN 0) ∧ (kN (i + 1)) ∧ (((((k - 1) : Nat) : Int) : Int) = ((k : Int) - 1)) ∧ (k8 [db l m, uD (kL (eY l w)), iD (kU (eY l w))]) ∧ (k8 (k9 (o ++ ([(dH l w)] : List (List Int)))))) zk ⟨rfl, rfl, rfl, mB, rfl, rfl⟩ (show (k - 1) < k from (by first | omega | (show _ < _; simp; omega)))
    · refine zr (.no :: .b true :: kS 5 [.b false, .no]) [0, 3, 4, 15] [0, 2] ((((0 : Int) < (k : Int))) ∧ (¬ ((kU w) = 0))) [(0, rV 0 0), (3, oV 2 0 i 1), (4, uV k), (15, bV false)] [(0, some (59, (bH l m w))), (2, some (63, .ds (k9 o)))] 3 ⟨zo, zo⟩ ?_
      refine zf ?_
      refine AW.exit ?_
      refine kK [.no, .no] True [(2, oV 2 0 i 1)] [(0, some (59, (bH l m w))), (2, some (63, .ds (k9 o)))] 3 trivial ?_
      refine AW.freeze 2 (l' := [(2, qX (k9 o) i)]) (g' := [(0, some (59, (bH l m w)))]) rfl (FzS.cons rfl (.e (.c (@FzC.own 2 ((k9 o) : List D) 0 i 1 true ((k9 o) : List D) mE yS))) FzS.nil) (uO rfl rfl FzG.nil) ?_
      obtain ⟨hz1, hz2⟩ := MzI.fin hI zo
      have hz3 : ka1 (bZ l u) = i := by rw [hz2]; omega
      refine AW.ret ?_
      exact kC (.inr rfl) [] (P := (((k9 (bZ l u)) : List D) = (k9 o)) ∧ (((ka1 (bZ l u)) : Nat) = i) ∧ (([db l m, uD (kL (vT l u)), iD (kU (vT l u))] : List D) = [db l m, uD (kL w), iD (kU w)])) zk ⟨(by first | rfl | exact hz3 | (rw [hz1]; done) | (rw [hz2]; done) | (rw [hz2, hz3]; done) | omega | (rw [hz1]; rfl) | (rw [hz2, hz3]; rfl)), (by first | rfl | exact hz3 | (rw [hz1]; done) | (rw [hz2]; done) | (rw [hz2, hz3]; done) | omega | (rw [hz1]; rfl) | (rw [hz2, hz3]; rfl)), (by first | rfl | exact hz3 | (rw [hz1]; done) | (rw [hz2]; done) | (rw [hz2, hz3]; done) | omega | (rw [hz1]; rfl) | (rw [hz2, hz3]; rfl))⟩
  · refine zr [.no, .b false, .no, .no] [0, 3, 4, 15] [0, 2] (¬ ((0 : Int) < (k : Int))) [(0, rV 0 0), (3, oV 2 0 i 1), (4, uV k), (15, bV false)] [(0, some (59, (bH l m w))), (2, some (63, .ds (k9 o)))] 3 zo ?_
    refine zf ?_
    refine AW.exit ?_
    refine kK [.no, .no] True [(2, oV 2 0 i 1)] [(0, some (59, (bH l m w))), (2, some (63, .ds (k9 o)))] 3 trivial ?_
    refine AW.freeze 2 (l' := [(2, qX (k9 o) i)]) (g' := [(0, some (59, (bH l m w)))]) rfl (FzS.cons rfl (.e (.c (@FzC.own 2 ((k9 o) : List D) 0 i 1 true ((k9 o) : List D) mE yS))) FzS.nil) (uO rfl rfl FzG.nil) ?_
    obtain ⟨hz1, hz2⟩ := MzI.fin hI zo
    have hz3 : ka1 (bZ l u) = i := by rw [hz2]; omega
    refine AW.ret ?_
    exact kC (.inr rfl) [] (P := (((k9 (bZ l u)) : List D) = (k9 o)) ∧ (((ka1 (bZ l u)) : Nat) = i) ∧ (([db l m, uD (kL (vT l u)), iD (kU (vT l u))] : List D) = [db l m, uD (kL w), iD (kU w)])) zk ⟨(by first | rfl | exact hz3 | (rw [hz1]; done) | (rw [hz2]; done) | (rw [hz2, hz3]; done) | omega | (rw [hz1]; rfl) | (rw [hz2, hz3]; rfl)), (by first | rfl | exact hz3 | (rw [hz1]; done) | (rw [hz2]; done) | (rw [hz2, hz3]; done) | omega | (rw [hz1]; rfl) | (rw [hz2, hz3]; rfl)), (by first | rfl | exact hz3 | (rw [hz1]; done) | (rw [hz2]; done) | (rw [hz2, hz3]; done) | omega | (rw [hz1]; rfl) | (rw [hz2, hz3]; rfl))⟩
abbrev vY (l : List Int) (w : RS) := dZ l (vT l (uW l (kD 2 l w)))
abbrev bG (l : List Int) (m : Nat) (w : RS) : BC := .ds [D.sl (dI .u8 l) m, iD (((kL w) : Nat) : Int), iD (kU w)]
abbrev s6 (l : List Int) (m : Nat) (w : RS) : BC := .ds [D.sl (dI .u8 l) m, iD (((kL (uW l (vT l (uW l (kD 2 l w))))) : Nat) : Int), iD (kU (uW l (vT l (uW l (kD 2 l w)))))]
@[reducible] def q1M (x : List Bx) : E1 := (.c (.d (D.sl (qC x) (ka1 x))))
theorem k7f (l : List Int) (m : Nat) (u : RS) (hm : ka1 l = m) (hb : m ≤ 1000000) (hy : Byt l) (hu : kL u ≤ m) : Fun 42 [.c (.ptr 0 0)] (kG [(0, some (59, .ds [D.sl (dI .u8 l) m, iD (((kL u) : Nat) : Int), iD (kU u)]))]) 1 (.e (q1M (yX l u))) (kG [(0, some (59, .ds [D.sl (dI .u8 l) m, iD (((kL (lW l u)) : Nat) : Int), iD (kU (lW l u))]))]) 1 := by
  refine Fun.mk (n := 36) Try.func42 rfl rfl (ka5 rfl) ?_
  intro cx hcx
  refine kK [.no] True [(0, rV 0 0)] [(0, some (59, .ds [db l m, uD (kL u), iD (kU u)]))] 1 trivial ?_
  refine kX [.no] True [(0, rV 0 0), (3, nV)] trivial ?_
  refine AW.seq ?_
  have hx1 : ((kL (kD 2 l u)) ≤ m) := (uX (zo) (uK))
  have hx2 : ((kV l u) ≤ 65535) := (yE (kP : Byt l) u)
  refine kK [.no, .call [0] (uV (kV l u)) [(0, some (59, .ds [db l m, uD (kL (kD 2 l u)), iD (kU (kD 2 l u))]))] 1 [] none, .no] _ [(0, rV 0 0), (3, nV), (4, uV (kV l u))] [(0, some (59, .ds [db l m, uD (kL (kD 2 l u)), iD (kU (kD 2 l u))]))] 1 (vG l m u zo zo (kP : Byt l) uK) ?_
  refine AW.block ?_
  refine AW.adoptS 3 4 78 rfl ?_
  refine kW 1 hcx (fun (x : {x : Nat × Nat × RS × List Bx // match x with | (k, i, w, o) => (DbI l u k w o) ∧ (ka1 o = i * 1 ∧ i + k ≤ 65535) ∧ (kL w ≤ m)}) => match x with | ⟨(k, i, w, o), _⟩ => (⟨[(0, rV 0 0), (3, oV 2 0 i 4), (4, uV k)], [(0, some (59, (bG l m w))), (2, some (78, .ds (qC o)))], 3⟩ : ES)) (fun x => match x with | ⟨(k, i, w, o), _⟩ => k) ⟨(((kV l u) : Nat), (0 : Nat), ((kD 2 l u) : RS), (([] : List Bx) : List Bx)), ⟨(DbI.zero l u), ⟨rfl, by omega⟩, zo⟩⟩ [(2, 1)] (P := (kN 0) ∧ (kN 0) ∧ (kN 0) ∧ (kM (kV l u : Int)) ∧ (k8 [db l m, uD (kL (kD 2 l u)), iD (kU (kD 2 l u))]) ∧ (((qC ([] : List Bx)) : List D) = ([] : List D))) zk ⟨rfl, rfl, rfl, rfl, rfl, (by first | rfl | with_reducible assumption)⟩ ?_
  rintro ⟨⟨k, i, w, o⟩, hinv0⟩
  obtain ⟨hI, ho, hw⟩ : (DbI l u k w o) ∧ (ka1 o = i * 1 ∧ i + k ≤ 65535) ∧ (kL w ≤ m) := hinv0
  refine uH (l := [(0, rV 0 0), (3, oV 2 0 i 4), (4, uV k)]) (g := [(0, some (59, (bG l m w))), (2, some (78, .ds (qC o)))]) (nx := 3) rfl rfl rfl ?_
  refine AW.seq ?_
  by_cases hx3 : ((0 : Int) < ((k : Nat) : Int))
  · by_cases hx4 : ((kU w) = 0)
    · refine zr (.no :: .b true :: kS 5 [.b true, .no]) [0, 3, 4, 16] [0, 2] ((((0 : Int) < (k : Int))) ∧ (((kU w) = 0))) [(0, rV 0 0), (3, oV 2 0 i 4), (4, uV k), (16, bV true)] [(0, some (59, (bG l m w))), (2, some (78, .ds (qC o)))] 3 ⟨zo, zo⟩ ?_
      refine vD ?_
      refine AW.seq ?_
      refine AW.block ?_
      have hx5 : ((kL (kD 2 l w)) ≤ m) := (uX (zo) (uK))
      have hx6 : ((kV l w) ≤ 65535) := (yE (kP : Byt l) w)
      refine kK [.no, .call [0] (uV (kV l w)) [(0, some (59, .ds [db l m, uD (kL (kD 2 l w)), iD (kU (kD 2 l w))]))] 1 [] none, .no, .no, .no] _ [(0, rV 0 0), (3, oV 2 0 i 4), (4, uV k), (5, rV 3 0)] [(0, some (59, .ds [db l m, uD (kL (kD 2 l w)), iD (kU (kD 2 l w))])), (2, some (78, .ds (qC o))), (3, some (78, .ds [uD (kV l w), qI, qI, qI]))] 4 (vG l m w zo zo (kP : Byt l) uK) ?_
      have hx7 : ((kL (uW l (kD 2 l w))) ≤ m) := (m5 (zo) (uK))
      have hx8 : ((ka1 (dZ l (kD 2 l w))) = ((aJ l (kD 2 l w)) * 2)) := (cV (kP : Byt l) (kD 2 l w)).1
      have hx9 : ((aJ l (kD 2 l w)) ≤ 65535) := (cV (kP : Byt l) (kD 2 l w)).2
      refine kK [.no, .call [0] (.e (.agg [.d (dl (dZ l (kD 2 l w)) (aJ l (kD 2 l w)))])) [(0, some (59, .ds [db l m, uD (kL (uW l (kD 2 l w))), iD (kU (uW l (kD 2 l w)))]))] 1 [] none, .no, .no] _ [(0, rV 0 0), (3, oV 2 0 i 4), (4, uV k), (5, rV 3 0)] [(0, some (59, .ds [db l m, uD (kL (uW l (kD 2 l w))), iD (kU (uW l (kD 2 l w)))])), (2, some (78, .ds (qC o))), (3, some (78, .ds [uD (kV l w), dl (dZ l (kD 2 l w)) (aJ l (kD 2 l w)), qI, qI]))] 4 (k8x l m (kD 2 l w) zo zo (kP : Byt l) uK) ?_
      have hx10 : ((kL (vT l (uW l (kD 2 l w)))) ≤ m) := (k24 (zo) (uK))
      have hx11 : ((ka1 (bZ l (uW l (kD 2 l w)))) ≤ 65535) := (xI (kP : Byt l) (uW l (kD 2 l w)))
      have hx12 : (MsW (bZ l (uW l (kD 2 l w)))) := (k80 (kP : Byt l) (uW l (kD 2 l w)))
      refine kK [.no, .call [0] (qX (k9 (bZ l (uW l (kD 2 l w)))) (ka1 (bZ l (uW l (kD 2 l w))))) [(0, some (59, .ds [db l m, iD (kL (vT l (uW l (kD 2 l w))) : Int), iD (kU (vT l (uW l (kD 2 l w))))]))] 1 [] none, .no, .no] _ [(0, rV 0 0), (3, oV 2 0 i 4), (4, uV k), (5, rV 3 0)] [(0, some (59, .ds [db l m, iD (kL (vT l (uW l (kD 2 l w))) : Int), iD (kU (vT l (uW l (kD 2 l w))))])), (2, some (78, .ds (qC o))), (3, some (78, .ds [uD (kV l w), dl (dZ l (kD 2 l w)) (aJ l (kD 2 l w)), D.sl (k9 (bZ l (uW l (kD 2 l w)))) (ka1 (bZ l (uW l (kD 2 l w)))), qI]))] 4 (u14 l m (uW l (kD 2 l w)) zo zo (kP : Byt l) uK) ?_
      have hx13 : ((kL (uW l (vT l (uW l (kD 2 l w))))) ≤ m) := (m5 (zo) (uK))
      have hx14 : ((ka1 (vY l w)) = ((aJ l (vT l (uW l (kD 2 l w)))) * 2)) := (cV (kP : Byt l) (vT l (uW l (kD 2 l w)))).1
      have hx15 : ((aJ l (vT l (uW l (kD 2 l w)))) ≤ 65535) := (cV (kP : Byt l) (vT l (uW l (kD 2 l w)))).2
      refine kK [.no, .call [0] (.e (.agg [.d (dl (vY l w) (aJ l (vT l (uW l (kD 2 l w)))))])) [(0, some (59, (s6 l m w)))] 1 [] none, .no, .no] _ [(0, rV 0 0), (3, oV 2 0 i 4), (4, uV k), (5, rV 3 0)] [(0, some (59, (s6 l m w))), (2, some (78, .ds (qC o))), (3, some (78, .ds [uD (kV l w), dl (dZ l (kD 2 l w)) (aJ l (kD 2 l w)), D.sl (k9 (bZ l (uW l (kD 2 l w)))) (ka1 (bZ l (uW l (kD 2 l w)))), dl (vY l w) (aJ l (vT l (uW l (kD 2 l w))))]))] 4 (k8x l m (vT l (uW l (kD 2 l w))) zo zo (kP : Byt l) uK) ?_
      refine cB [.no, .no, .no, .ap none (i + 1) (qC (o ++ ([(cN (kV l w : Int) (dZ l (kD 2 l w)) (aJ l (kD 2 l w)) (bZ l (uW l (kD 2 l w))) (vY l w) (aJ l (vT l (uW l (kD 2 l w)))))] : List Bx))), .no] (([uD (kV l w), dl (dZ l (kD 2 l w)) (aJ l (kD 2 l w)), D.sl (k9 (bZ l (uW l (kD 2 l w)))) (ka1 (bZ l (uW l (kD 2 l w)))), dl (vY l w) (aJ l (vT l (uW l (kD 2 l w))))].length = 1 * 4) ∧ (((qC o) : List D).length = i * 4) ∧ ((i + 1) * 80 ≤ 140737488355328) ∧ (i + 1 = (i + 1)) ∧ (((qC o) : List D) ++ [uD (kV l w), dl (dZ l (kD 2 l w)) (aJ l (kD 2 l w)), D.sl (k9 (bZ l (uW l (kD 2 l w)))) (ka1 (bZ l (uW l (kD 2 l w)))), dl (vY l w) (aJ l (vT l (uW l (kD 2 l w))))] = (qC (o ++ ([(cN (kV l w : Int) (dZ l (kD 2 l w)) (aJ l (kD 2 l w)) (bZ l (uW l (kD 2 l w))) (vY l w) (aJ l (vT l (uW l (kD 2 l w)))))] : List Bx))))) [(0, rV 0 0), (3, oV 5 0 (i + 1) 4), (4, uV k)] [(0, some (59, (s6 l m w))), (5, some (78, .ds (qC (o ++ ([(cN (kV l w : Int) (dZ l (kD 2 l w)) (aJ l (kD 2 l w)) (bZ l (uW l (kD 2 l w))) (vY l w) (aJ l (vT l (uW l (kD 2 l w)))))] : List Bx)))))] 6 ⟨yS, yS, zo, zo, (xX o (kV l w : Int) (dZ l (kD 2 l w)) (aJ l (kD 2 l w)) (bZ l (uW l (kD 2 l w))) (ka1 (bZ l (uW l (kD 2 l w)))) (vY l w) (aJ l (vT l (uW l (kD 2 l w)))) (by first | rfl | omega))⟩ ?_
      refine yD [.no, .w, .no] (qL ((k : Int) - 1)) [(0, rV 0 0), (3, oV 5 0 (i + 1) 4), (4, iV (↑k - 1))] ⟨by omega, by omega⟩ ?_
      exact qS ⟨(((k - 1) : Nat), ((i + 1) : Nat), ((uW l (vT l (uW l (kD 2 l w)))) : RS), ((o ++ ([(cN (kV l w : Int) (dZ l (kD 2 l w)) (aJ l (kD 2 l w)) (bZ l (uW l (kD 2 l w))) (vY l w) (aJ l (vT l (uW l (kD 2 l w)))))] : List Bx)) : List Bx)), ⟨(hI.step zo zo), mC, zo⟩⟩ [(2, 5)] (P := (kN 0) ∧ (kN 0) ∧ (kN (i + 1)) ∧ (((((k - 1) : Nat) : Int) : Int) = ((k : Int) - 1)) ∧ (k8 [db l m, iD (((kL (uW l (vT l (uW l (kD 2 l w))))) : Nat) : Int), iD (kU (uW l (vT l (uW l (kD 2 l w)))))]) ∧ (k8 (qC (o ++ ([(cN (kV l w : Int) (dZ l (kD 2 l w)) (aJ l (kD 2 l w)) (bZ l (uW l (kD 2 l w))) (vY l w) (aJ l (vT l (uW l (kD 2 l w)))))] : List Bx))))) zk ⟨rfl, rfl, rfl, mB, rfl, rfl⟩ (show (k - 1) < k from (by first | omega | (show _ < _; simp; omega)))
    · refine zr (.no :: .b true :: kS 5 [.b false, .no]) [0, 3, 4, 16] [0, 2] ((((0 : Int) < (k : Int))) ∧ (¬ ((kU w) = 0))) [(0, rV 0 0), (3, oV 2 0 i 4), (4, uV k), (16, bV false)] [(0, some (59, (bG l m w))), (2, some (78, .ds (qC o)))] 3 ⟨zo, zo⟩ ?_
      refine zf ?_
      refine AW.exit ?_
      refine kK [.no, .no] True [(2, oV 2 0 i 4)] [(0, some (59, (bG l m w))), (2, some (78, .ds (qC o)))] 3 trivial ?_
      refine AW.freeze 2 (l' := [(2, .e (vN o i))]) (g' := [(0, some (59, (bG l m w)))]) rfl (FzS.cons rfl (.e (.c (@FzC.own 2 ((qC o) : List D) 0 i 4 true ((qC o) : List D) mD yS))) FzS.nil) (uO rfl rfl FzG.nil) ?_
      obtain ⟨hz1, hz2⟩ := DbI.fin hI zo
      have hz3 : ka1 (yX l u) = i := by rw [hz2]; omega
      refine AW.ret ?_
      exact kC (.inr rfl) [] (P := (((qC (yX l u)) : List D) = (qC o)) ∧ (((ka1 (yX l u)) : Nat) = i) ∧ (([db l m, uD (kL (lW l u)), iD (kU (lW l u))] : List D) = [db l m, uD (kL w), iD (kU w)])) zk ⟨(by first | rfl | exact hz3 | (rw [hz1]; done) | (rw [hz2]; done) | (rw [hz2, hz3]; done) | omega | (rw [hz1]; rfl) | (rw [hz2, hz3]; rfl)), (by first | rfl | exact hz3 | (rw [hz1]; done) | (rw [hz2]; done) | (rw [hz2, hz3]; done) | omega | (rw [hz1]; rfl) | (rw [hz2, hz3]; rfl)), (by first | rfl | exact hz3 | (rw [hz1]; done) | (rw [hz2]; done) | (rw [hz2, hz3]; done) | omega | (rw [hz1]; rfl) | (rw [hz2, hz3]; rfl))⟩
  · refine zr [.no, .b false, .no, .no] [0, 3, 4, 16] [0, 2] (¬ ((0 : Int) < (k : Int))) [(0, rV 0 0), (3, oV 2 0 i 4), (4, uV k), (16, bV false)] [(0, some (59, (bG l m w))), (2, some (78, .ds (qC o)))] 3 zo ?_
    refine zf ?_
    refine AW.exit ?_
    refine kK [.no, .no] True [(2, oV 2 0 i 4)] [(0, some (59, (bG l m w))), (2, some (78, .ds (qC o)))] 3 trivial ?_
    refine AW.freeze 2 (l' := [(2, .e (vN o i))]) (g' := [(0, some (59, (bG l m w)))]) rfl (FzS.cons rfl (.e (.c (@FzC.own 2 ((qC o) : List D) 0 i 4 true ((qC o) : List D) mD yS))) FzS.nil) (uO rfl rfl FzG.nil) ?_
    obtain ⟨hz1, hz2⟩ := DbI.fin hI zo
    have hz3 : ka1 (yX l u) = i := by rw [hz2]; omega
    refine AW.ret ?_
    exact kC (.inr rfl) [] (P := (((qC (yX l u)) : List D) = (qC o)) ∧ (((ka1 (yX l u)) : Nat) = i) ∧ (([db l m, uD (kL (lW l u)), iD (kU (lW l u))] : List D) = [db l m, uD (kL w), iD (kU w)])) zk ⟨(by first | rfl | exact hz3 | (rw [hz1]; done) | (rw [hz2]; done) | (rw [hz2, hz3]; done) | omega | (rw [hz1]; rfl) | (rw [hz2, hz3]; rfl)), (by first | rfl | exact hz3 | (rw [hz1]; done) | (rw [hz2]; done) | (rw [hz2, hz3]; done) | omega | (rw [hz1]; rfl) | (rw [hz2, hz3]; rfl)), (by first | rfl | exact hz3 | (rw [hz1]; done) | (rw [hz2]; done) | (rw [hz2, hz3]; done) | omega | (rw [hz1]; rfl) | (rw [hz2, hz3]; rfl))⟩
end Go.Proofs.Ytalbpleglapihaa
