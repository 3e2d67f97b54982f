/- What is read in a row. No statement is proved here. -/
import Derived.Test.YtalbpleglapihaaZD11B
namespace Go.Proofs.Ytalbpleglapihaa
open Go.ChangeShapes Go.WideShapes Go.ChangeAt Go.RowKit
open List renaming append_nil → kc6, drop_zero → kc9, length → ka1, length_append → ka4, length_cons → kb2, length_drop → kb1, length_map → kd0, length_nil → kb5, length_replicate → kb4, length_reverse → kc8, length_set → kc4, length_take → kb3, take_of_length_le → kc2
open Nat renaming le_of_ble_eq_true → ka5, le_trans → ke8, mul_one → kc3
set_option linter.unusedVariables false
set_option linter.unusedSimpArgs false
/-! chapter 11: what is read in a row -/
set_option maxHeartbeats 4000000
set_option maxRecDepth 100000
def mP (f : RS → RS) : Nat → RS → RS
  | 0, u => u
  | n + 1, u => if kT u = 0 then mP f n (f u) else u
def wP {α : Type} (f : RS → RS) (v : RS → List α) : Nat → RS → List α
  | 0, _ => []
  | n + 1, u => if kT u = 0 then v u ++ wP f v n (f u) else []
theorem o4 {f : RS → RS} {n : Nat} {u : RS} (h : kT u = 0) : mP f (n + 1) u = mP f n (f u) := if_pos h
theorem k1i {f : RS → RS} {n : Nat} {u : RS} (h : ¬ kT u = 0) : mP f n u = u := by
  cases n with
  | zero => rfl
  | succ n => exact if_neg h
theorem wO {α : Type} {f : RS → RS} {v : RS → List α} {n : Nat} {u : RS} (h : kT u = 0) : wP f v (n + 1) u = v u ++ wP f v n (f u) := if_pos h
theorem k1h {α : Type} {f : RS → RS} {v : RS → List α} {n : Nat} {u : RS} (h : ¬ kT u = 0) : wP f v n u = [] := by
  cases n with
  | zero => rfl
  | succ n => exact if_neg h
theorem iA {f : RS → RS} {m : Nat} (hf : ∀ u, kL u ≤ m → kL (f u) ≤ m) : ∀ (n : Nat) (u : RS), kL u ≤ m → kL (mP f n u) ≤ m
  | 0, u, h => h
  | n + 1, u, h => by
    by_cases hq : kT u = 0
    · rw [o4 hq]; exact iA hf n _ (hf u h)
    · rw [k1i hq]; exact h
theorem dQ {α : Type} {f : RS → RS} {v : RS → List α} {s : Nat} (hv : ∀ u, (v u).length = s) : ∀ (n : Nat) (u : RS), ∃ c, c ≤ n ∧ (wP f v n u).length = c * s
  | 0, u => ⟨0, Nat.le_refl _, by rw [Nat.zero_mul]; rfl⟩
  | n + 1, u => by
    by_cases hq : kT u = 0
    · obtain ⟨c, h1, h2⟩ := dQ hv n (f u)
      exact ⟨c + 1, by omega, by rw [wO hq, ka4, hv, h2, Nat.succ_mul]; omega⟩
    · exact ⟨0, by omega, by rw [k1h hq, Nat.zero_mul]; rfl⟩
theorem mO {α : Type} {f : RS → RS} {v : RS → List α} {p : α → Prop} (hv : ∀ u, ∀ x ∈ v u, p x) : ∀ (n : Nat) (u : RS), ∀ x ∈ wP f v n u, p x
  | 0, u, x, h => by cases h
  | n + 1, u, x, h => by
    by_cases hq : kT u = 0
    · rw [wO hq] at h
      rcases List.mem_append.1 h with h | h
      · exact hv u x h
      · exact mO hv n (f u) x h
    · rw [k1h hq] at h; cases h
def ItI {α : Type} (f : RS → RS) (v : RS → List α) (n0 : Nat) (u0 : RS) (k : Nat) (w : RS) (o : List α) : Prop := mP f n0 u0 = mP f k w ∧ wP f v n0 u0 = o ++ wP f v k w
theorem ItI.zero {α : Type} (f : RS → RS) (v : RS → List α) (n0 : Nat) (u0 : RS) : ItI f v n0 u0 n0 u0 [] := ⟨rfl, rfl⟩
theorem ItI.step {α : Type} {f : RS → RS} {v : RS → List α} {n0 : Nat} {u0 : RS} {k : Nat} {w : RS} {o : List α} (h : ItI f v n0 u0 k w o) (hk : 0 < k) (hq : kT w = 0) : ItI f v n0 u0 (k - 1) (f w) (o ++ v w) := by
  obtain ⟨k, rfl⟩ : ∃ j, k = j + 1 := ⟨k - 1, by omega⟩
  refine ⟨by rw [h.1, o4 hq]; rfl, ?_⟩
  rw [h.2, wO hq, List.append_assoc]; rfl
theorem ItI.fin {α : Type} {f : RS → RS} {v : RS → List α} {n0 : Nat} {u0 : RS} {k : Nat} {w : RS} {o : List α} (h : ItI f v n0 u0 k w o) (hk : k = 0 ∨ ¬ kT w = 0) : mP f n0 u0 = w ∧ wP f v n0 u0 = o := by
  rcases hk with rfl | hk
  · exact ⟨h.1, by rw [h.2]; exact kc6 _⟩
  · exact ⟨by rw [h.1, k1i hk], by rw [h.2, k1h hk, kc6]⟩
def seX (l : List Int) (w : RS) : List Int := [yA l w, yA l (kD 4 l w)]
def seF (l : List Int) (w : RS) : RS := kD 4 l (kD 4 l w)
def uW (l : List Int) (u : RS) : RS := mP (seF l) (kV l u) (kD 2 l u)
def dE (l : List Int) (u : RS) : List Int := wP (seF l) (seX l) (kV l u) (kD 2 l u)
def aD (l : List Int) (u : RS) : Nat := ka1 (dE l u) / 2
def SeI (l : List Int) (u : RS) (k : Nat) (w : RS) (o : List Int) : Prop := ItI (seF l) (seX l) (kV l u) (kD 2 l u) k w o
theorem SeI.zero (l : List Int) (u : RS) : SeI l u (kV l u) (kD 2 l u) [] := ItI.zero _ _ _ _
theorem SeI.step {l : List Int} {u : RS} {k : Nat} {w : RS} {o : List Int} (h : SeI l u k w o) (hk : 0 < k) (hq : kT w = 0) : SeI l u (k - 1) (kD 4 l (kD 4 l w)) (o ++ [yA l w, yA l (kD 4 l w)]) := ItI.step h hk hq
theorem SeI.fin {l : List Int} {u : RS} {k : Nat} {w : RS} {o : List Int} (h : SeI l u k w o) (hk : k = 0 ∨ ¬ kT w = 0) : uW l u = w ∧ dE l u = o := ItI.fin h hk
theorem k4b {l : List Int} {u : RS} {o : List Int} {i : Nat} (h : dE l u = o) (ho : ka1 o = i * 2) : aD l u = i := by unfold aD; rw [h, ho]; omega
theorem k7v {m : Nat} {l : List Int} (hm : l.length = m) (u : RS) (h : kL u ≤ m) : kL (seF l u) ≤ m := uX hm (uX hm h)
theorem l5 {m : Nat} {l : List Int} {u : RS} (hm : l.length = m) (hu : kL u ≤ m) : kL (uW l u) ≤ m := iA (k7v hm) _ _ (uX hm hu)
theorem cB {l : List Int} (hy : Byt l) (u : RS) : ka1 (dE l u) = aD l u * 2 ∧ aD l u ≤ 65535 := by
  obtain ⟨c, h1, h2⟩ := dQ (f := seF l) (v := seX l) (s := 2) (fun _ => rfl) (kV l u) (kD 2 l u)
  have h3 := yE hy u
  have h4 : aD l u = c := k4b rfl h2
  rw [h4]; exact ⟨h2, by omega⟩
def dcX (l : List Int) (w : RS) : List Int := [((kV l w : Nat) : Int)]
def eK (l : List Int) (u : RS) : RS := mP (kD 2 l) (kV l u) (kD 2 l u)
def cV (l : List Int) (u : RS) : List Int := wP (kD 2 l) (dcX l) (kV l u) (kD 2 l u)
def DcI (l : List Int) (u : RS) (k : Nat) (w : RS) (o : List Int) : Prop := ItI (kD 2 l) (dcX l) (kV l u) (kD 2 l u) k w o
theorem DcI.zero (l : List Int) (u : RS) : DcI l u (kV l u) (kD 2 l u) [] := ItI.zero _ _ _ _
theorem DcI.step {l : List Int} {u : RS} {k : Nat} {w : RS} {o : List Int} (h : DcI l u k w o) (hk : 0 < k) (hq : kT w = 0) : DcI l u (k - 1) (kD 2 l w) (o ++ [((kV l w : Nat) : Int)]) := ItI.step h hk hq
theorem DcI.fin {l : List Int} {u : RS} {k : Nat} {w : RS} {o : List Int} (h : DcI l u k w o) (hk : k = 0 ∨ ¬ kT w = 0) : eK l u = w ∧ cV l u = o := ItI.fin h hk
theorem k3d {m : Nat} {l : List Int} {u : RS} (hm : l.length = m) (hu : kL u ≤ m) : kL (eK l u) ≤ m := iA (fun _ h => uX hm h) _ _ (uX hm hu)
theorem wW {l : List Int} (hy : Byt l) (u : RS) : ka1 (cV l u) ≤ 65535 := by
  obtain ⟨c, h1, h2⟩ := dQ (f := kD 2 l) (v := dcX l) (s := 1) (fun _ => rfl) (kV l u) (kD 2 l u)
  have h3 := yE hy u
  have h4 : ka1 (cV l u) = c * 1 := h2
  omega
def mzX (l : List Int) (w : RS) : List (List Int) := [cV l w]
def vN (l : List Int) (u : RS) : RS := mP (eK l) (kV l u) (kD 2 l u)
def bJ (l : List Int) (u : RS) : List (List Int) := wP (eK l) (mzX l) (kV l u) (kD 2 l u)
def MzI (l : List Int) (u : RS) (k : Nat) (w : RS) (o : List (List Int)) : Prop := ItI (eK l) (mzX l) (kV l u) (kD 2 l u) k w o
theorem MzI.zero (l : List Int) (u : RS) : MzI l u (kV l u) (kD 2 l u) [] := ItI.zero _ _ _ _
theorem MzI.step {l : List Int} {u : RS} {k : Nat} {w : RS} {o : List (List Int)} (h : MzI l u k w o) (hk : 0 < k) (hq : kT w = 0) : MzI l u (k - 1) (eK l w) (o ++ [cV l w]) := ItI.step h hk hq
theorem MzI.fin {l : List Int} {u : RS} {k : Nat} {w : RS} {o : List (List Int)} (h : MzI l u k w o) (hk : k = 0 ∨ ¬ kT w = 0) : vN l u = w ∧ bJ l u = o := ItI.fin h hk
theorem k12 {m : Nat} {l : List Int} {u : RS} (hm : l.length = m) (hu : kL u ≤ m) : kL (vN l u) ≤ m := iA (fun _ h => k3d hm h) _ _ (uX hm hu)
theorem wI {l : List Int} (hy : Byt l) (u : RS) : ka1 (bJ l u) ≤ 65535 := by
  obtain ⟨c, h1, h2⟩ := dQ (f := eK l) (v := mzX l) (s := 1) (fun _ => rfl) (kV l u) (kD 2 l u)
  have h3 := yE hy u
  have h4 : ka1 (bJ l u) = c * 1 := h2
  omega
theorem k6m {l : List Int} (hy : Byt l) (u : RS) : MsW (bJ l u) := mO (p := fun x => ka1 x ≤ 1000000) (fun w x hx => by
  rw [List.mem_singleton.1 hx]; have := wW hy w; omega) _ _
def dbX (l : List Int) (w : RS) : List Bx := [bX ((kV l w : Nat) : Int) (dE l (kD 2 l w)) (aD l (kD 2 l w)) (bJ l (uW l (kD 2 l w))) (dE l (vN l (uW l (kD 2 l w)))) (aD l (vN l (uW l (kD 2 l w))))]
def dbF (l : List Int) (w : RS) : RS := uW l (vN l (uW l (kD 2 l w)))
def j7 (l : List Int) (u : RS) : RS := mP (dbF l) (kV l u) (kD 2 l u)
def yY (l : List Int) (u : RS) : List Bx := wP (dbF l) (dbX l) (kV l u) (kD 2 l u)
def DbI (l : List Int) (u : RS) (k : Nat) (w : RS) (o : List Bx) : Prop := ItI (dbF l) (dbX l) (kV l u) (kD 2 l u) k w o
theorem DbI.zero (l : List Int) (u : RS) : DbI l u (kV l u) (kD 2 l u) [] := ItI.zero _ _ _ _
theorem DbI.step {l : List Int} {u : RS} {k : Nat} {w : RS} {o : List Bx} (h : DbI l u k w o) (hk : 0 < k) (hq : kT w = 0) : DbI l u (k - 1) (uW l (vN l (uW l (kD 2 l w)))) (o ++ [bX ((kV l w : Nat) : Int) (dE l (kD 2 l w)) (aD l (kD 2 l w)) (bJ l (uW l (kD 2 l w))) (dE l (vN l (uW l (kD 2 l w)))) (aD l (vN l (uW l (kD 2 l w))))]) := ItI.step h hk hq
theorem DbI.fin {l : List Int} {u : RS} {k : Nat} {w : RS} {o : List Bx} (h : DbI l u k w o) (hk : k = 0 ∨ ¬ kT w = 0) : j7 l u = w ∧ yY l u = o := ItI.fin h hk
theorem k3f {m : Nat} {l : List Int} {u : RS} (hm : l.length = m) (hu : kL u ≤ m) : kL (j7 l u) ≤ m := iA (fun _ h => l5 hm (k12 hm (l5 hm (uX hm h)))) _ _ (uX hm hu)
theorem nE {l : List Int} (hy : Byt l) (u : RS) : ka1 (yY l u) ≤ 65535 := by
  obtain ⟨c, h1, h2⟩ := dQ (f := dbF l) (v := dbX l) (s := 1) (fun _ => rfl) (kV l u) (kD 2 l u)
  have h3 := yE hy u
  have h4 : ka1 (yY l u) = c * 1 := h2
  omega
theorem u29 {l : List Int} (hy : Byt l) (w : RS) : BsW (dbX l w) := by
  refine BsW.one ?_
  have h1 := cB hy (kD 2 l w); have h2 := cB hy (vN l (uW l (kD 2 l w))); have h3 := wI hy (uW l (kD 2 l w))
  exact ⟨h1.1, h2.1, ke8 h1.2 (by omega), ke8 h2.2 (by omega), ke8 h3 (by omega), k6m hy _⟩
theorem k3e {l : List Int} (hy : Byt l) (u : RS) : BsW (yY l u) := mO (p := BxW) (fun w => u29 hy w) _ _
attribute [local irreducible] uW dE aD eK cV vN bJ j7 yY kD kV yA
theorem uJ {p : Prop} (h : p := by first | omega | with_reducible assumption | (simp only [kR, kQ, pbL_len, ka4, kb2, kb5, kb3, kb1, kb4, kc4] <;> omega) | rfl | assumption) : p := h
theorem yQ {p : Prop} (h : p := by first | omega | (simp only [kR, kQ, pbL_len, qJ, ka4, kb2, kb5, kb3, kb1, kb4, kc4, kd0, kc8, kc3] <;> omega) | rfl) : p := h
theorem lI {p : Prop} (h : p := by first | omega | (simp only [kR, kQ, pbL_len, ka4, kb2, kb5] <;> omega)) : p := h
theorem lH {p : Prop} (h : p := by first | rfl | omega | assumption | (simp; done) | (simp; omega)) : p := h
theorem lJ {p : Prop} (h : p := by rw [kc9, kc2 (by first | omega | (simp only [kR, kQ, pbL_len, qJ, ka4, kb2, kb5, kb3, kb1, kb4, kc4, kd0, kc8, kc3] <;> omega))]) : p := h
abbrev a8 (l : List Int) (m : Nat) (w : RS) : BC := .ds [D.sl (dI .u8 l) m, iD (((kL w) : Nat) : Int), iD (kT w)]
theorem k7k (l : List Int) (m : Nat) (u : RS) (hm : ka1 l = m) (hb : m ≤ 1000000) (hy : Byt l) (hu : kL u ≤ m) : Fun 57 [.c (.ptr 0 0)] (kG [(0, some (59, .ds [D.sl (dI .u8 l) m, iD (((kL u) : Nat) : Int), iD (kT u)]))]) 1 (.e (.agg [.d (D.sl (dI .i64 (dE l u)) (aD l u))])) (kG [(0, some (59, .ds [D.sl (dI .u8 l) m, iD (((kL (uW l u)) : Nat) : Int), iD (kT (uW l u))]))]) 1 := by
  refine Fun.mk (n := 31) Try.func57 rfl rfl (ka5 rfl) ?_
  intro cx hcx
  refine kK [.no] True [(0, rV 0 0), (2, rV 1 0)] [(0, some (59, .ds [db l m, uD (kL u), iD (kT u)])), (1, some (75, .ds [qH]))] 2 trivial ?_
  refine kK [.no] True [(0, rV 0 0), (2, rV 1 0), (3, rV 2 0)] [(0, some (59, .ds [db l m, uD (kL u), iD (kT u)])), (1, some (75, .ds [qH])), (2, some (75, .ds [qH]))] 3 trivial ?_
  refine AW.seq ?_
  have hx1 : ((kL (kD 2 l u)) ≤ m) := (uX (zo) (uJ))
  have hx2 : ((kV l u) ≤ 65535) := (yE (kP : Byt l) u)
  refine kK [.no, .call [0] (uV (kV l u)) [(0, some (59, .ds [db l m, uD (kL (kD 2 l u)), iD (kT (kD 2 l u))]))] 1 [] none, .no] _ [(0, rV 0 0), (2, rV 1 0), (3, rV 2 0), (4, uV (kV l u))] [(0, some (59, .ds [db l m, uD (kL (kD 2 l u)), iD (kT (kD 2 l u))])), (1, some (75, .ds [qH])), (2, some (75, .ds [qH]))] 3 (vC l m u zo zo (kP : Byt l) uJ) ?_
  refine AW.block ?_
  refine lD 2 0 2 96 (cs' := [.own 3 0 0 2 true]) rfl rfl rfl ?_
  refine kW 1 hcx (fun (x : {x : Nat × Nat × RS × List Int // match x with | (k, i, w, o) => (SeI l u k w o) ∧ (ka1 o = i * 2 ∧ i + k ≤ 65535) ∧ (kL w ≤ m)}) => match x with | ⟨(k, i, w, o), _⟩ => (⟨[(0, rV 0 0), (2, rV 1 0), (3, rV 2 0), (4, uV k)], [(0, some (59, (a8 l m w))), (1, some (75, .ds [qH])), (2, some (75, .cs [.own 4 0 i 2 true])), (4, some (96, .ds (dI .i64 o)))], 5⟩ : ES)) (fun x => match x with | ⟨(k, i, w, o), _⟩ => k) ⟨(((kV l u) : Nat), (0 : Nat), ((kD 2 l u) : RS), (([] : List Int) : List Int)), ⟨(SeI.zero l u), ⟨rfl, by omega⟩, zo⟩⟩ [(4, 3)] (P := (kM 0) ∧ (kM 0) ∧ (kM 0) ∧ (kN (kV l u : Int)) ∧ (k8 [db l m, uD (kL (kD 2 l u)), iD (kT (kD 2 l u))]) ∧ (k8 [qH]) ∧ (kM 0) ∧ (kM 0) ∧ (((dI .i64 ([] : List Int)) : List D) = ([] : List D))) zk ⟨rfl, rfl, rfl, rfl, rfl, rfl, rfl, rfl, (by first | rfl | with_reducible assumption)⟩ ?_
  rintro ⟨⟨k, i, w, o⟩, hinv0⟩
  obtain ⟨hI, ho, hw⟩ : (SeI l u k w o) ∧ (ka1 o = i * 2 ∧ i + k ≤ 65535) ∧ (kL w ≤ m) := hinv0
  refine uI (l := [(0, rV 0 0), (2, rV 1 0), (3, rV 2 0), (4, uV k)]) (g := [(0, some (59, (a8 l m w))), (1, some (75, .ds [qH])), (2, some (75, .cs [.own 4 0 i 2 true])), (4, some (96, .ds (dI .i64 o)))]) (nx := 5) rfl rfl rfl ?_
  refine AW.seq ?_
  by_cases hx3 : ((0 : Int) < ((k : Nat) : Int))
  · by_cases hx4 : ((kT w) = 0)
    · refine zr (.no :: .b true :: kU 5 [.b true, .no]) [0, 2, 3, 4, 16] [0, 1, 2, 4] ((((0 : Int) < (k : Int))) ∧ (((kT w) = 0))) [(0, rV 0 0), (2, rV 1 0), (3, rV 2 0), (4, uV k), (16, bV true)] [(0, some (59, (a8 l m w))), (1, some (75, .ds [qH])), (2, some (75, .cs [.own 4 0 i 2 true])), (4, some (96, .ds (dI .i64 o)))] 5 ⟨zo, zo⟩ ?_
      refine vD ?_
      refine AW.seq ?_
      refine AW.block ?_
      have hx5 : ((kL (kD 4 l w)) ≤ m) := (uX (zo) (uJ))
      have hx6 : (((0 : Int) ≤ (yA l w)) ∧ ((yA l w) ≤ 4294967295)) := (lS (kP : Byt l) w)
      refine kK [.no, .call [0] (iV (yA l w)) [(0, some (59, .ds [db l m, uD (kL (kD 4 l w)), iD (kT (kD 4 l w))]))] 1 [] none, .no] _ [(0, rV 0 0), (2, rV 1 0), (3, rV 2 0), (4, uV k), (5, iV (yA l w))] [(0, some (59, .ds [db l m, uD (kL (kD 4 l w)), iD (kT (kD 4 l w))])), (1, some (75, .ds [qH])), (2, some (75, .cs [.own 4 0 i 2 true])), (4, some (96, .ds (dI .i64 o)))] 5 (nO l m w zo zo (kP : Byt l) uJ) ?_
      have hx7 : ((kL (kD 4 l (kD 4 l w))) ≤ m) := (uX (zo) (uJ))
      have hx8 : (((0 : Int) ≤ (yA l (kD 4 l w))) ∧ ((yA l (kD 4 l w)) ≤ 4294967295)) := (lS (kP : Byt l) (kD 4 l w))
      refine aX (kU 4 [.call [0] (iV (yA l (kD 4 l w))) [(0, some (59, .ds [db l m, uD (kL (kD 4 l (kD 4 l w))), iD (kT (kD 4 l (kD 4 l w)))]))] 1 [] none, .no, .no, .ap none (i + 1) (dI .i64 (o ++ ([(yA l w), (yA l (kD 4 l w))] : List Int))), .no, .no]) ((_) ∧ ([iD (yA l w), iD (yA l (kD 4 l w))].length = 1 * 2) ∧ (((dI .i64 o) : List D).length = i * 2) ∧ ((i + 1) * 16 ≤ 140737488355328) ∧ (i + 1 = (i + 1)) ∧ (((dI .i64 o) : List D) ++ [iD (yA l w), iD (yA l (kD 4 l w))] = (dI .i64 (o ++ ([(yA l w), (yA l (kD 4 l w))] : List Int))))) [(0, rV 0 0), (2, rV 1 0), (3, rV 2 0), (4, uV k)] [(0, some (59, .ds [db l m, uD (kL (kD 4 l (kD 4 l w))), iD (kT (kD 4 l (kD 4 l w)))])), (1, some (75, .ds [qH])), (2, some (75, .cs [.own 6 0 (i + 1) 2 true])), (6, some (96, .ds (dI .i64 (o ++ ([(yA l w), (yA l (kD 4 l w))] : List Int)))))] 7 ⟨(nO l m (kD 4 l w) zo zo (kP : Byt l) uJ), yQ, yQ, zo, zo, (qD .i64 o ([(yA l w), (yA l (kD 4 l w))] : List Int))⟩ ?_
      refine yH [.no, .w, .no] (qL ((k : Int) - 1)) [(0, rV 0 0), (2, rV 1 0), (3, rV 2 0), (4, iV (↑k - 1))] ⟨by omega, by omega⟩ ?_
      exact qQ ⟨(((k - 1) : Nat), ((i + 1) : Nat), ((kD 4 l (kD 4 l w)) : RS), ((o ++ ([(yA l w), (yA l (kD 4 l w))] : List Int)) : List Int)), ⟨(hI.step zo zo), lI, zo⟩⟩ [(4, 6)] (P := (kM 0) ∧ (kM 0) ∧ (kM 0) ∧ (((((k - 1) : Nat) : Int) : Int) = ((k : Int) - 1)) ∧ (k8 [db l m, uD (kL (kD 4 l (kD 4 l w))), iD (kT (kD 4 l (kD 4 l w)))]) ∧ (k8 [qH]) ∧ (kM 0) ∧ (kM (i + 1)) ∧ (k8 (dI .i64 (o ++ ([(yA l w), (yA l (kD 4 l w))] : List Int))))) zk ⟨rfl, rfl, rfl, lH, rfl, rfl, rfl, rfl, rfl⟩ (show (k - 1) < k from (by first | omega | (show _ < _; simp; omega)))
    · refine zr (.no :: .b true :: kU 5 [.b false, .no]) [0, 2, 3, 4, 16] [0, 1, 2, 4] ((((0 : Int) < (k : Int))) ∧ (¬ ((kT w) = 0))) [(0, rV 0 0), (2, rV 1 0), (3, rV 2 0), (4, uV k), (16, bV false)] [(0, some (59, (a8 l m w))), (1, some (75, .ds [qH])), (2, some (75, .cs [.own 4 0 i 2 true])), (4, some (96, .ds (dI .i64 o)))] 5 ⟨zo, zo⟩ ?_
      refine zf ?_
      refine AW.exit ?_
      refine kK [.no, .no] True [(2, rV 1 0)] [(0, some (59, (a8 l m w))), (1, some (75, .cs [.own 4 0 i 2 true])), (4, some (96, .ds (dI .i64 o)))] 5 trivial ?_
      refine AW.freeze 4 (l' := [(2, rV 1 0)]) (g' := [(0, some (59, (a8 l m w))), (1, some (75, .ds [dl o i]))]) rfl (FzS.cons rfl (.same _) FzS.nil) (uP rfl rfl (FzG.to (bc := .cs [.own 4 0 i 2 true]) rfl (by rfl) (FzL.cons (@FzC.own 4 ((dI .i64 o) : List D) 0 i 2 true ((dI .i64 o) : List D) lJ yQ) FzL.nil) FzG.nil)) ?_
      obtain ⟨hz1, hz2⟩ := SeI.fin hI zo
      have hz3 : aD l u = i := k4b hz2 (by omega)
      refine AW.ret ?_
      exact kC (.inr rfl) [] (P := (((dI .i64 (dE l u)) : List D) = (dI .i64 o)) ∧ (((aD l u) : Nat) = i) ∧ (([db l m, uD (kL (uW l u)), iD (kT (uW l u))] : List D) = [db l m, uD (kL w), iD (kT w)])) zk ⟨(by first | rfl | exact hz3 | (rw [hz1]; done) | (rw [hz2]; done) | (rw [hz2, hz3]; done) | omega | (rw [hz1]; rfl) | (rw [hz2, hz3]; rfl)), (by first | rfl | exact hz3 | (rw [hz1]; done) | (rw [hz2]; done) | (rw [hz2, hz3]; done) | omega | (rw [hz1]; rfl) | (rw [hz2, hz3]; rfl)), (by first | rfl | exact hz3 | (rw [hz1]; done) | (rw [hz2]; done) | (rw [hz2, hz3]; done) | omega | (rw [hz1]; rfl) | (rw [hz2, hz3]; rfl))⟩
  · refine zr [.no, .b false, .no, .no] [0, 2, 3, 4, 16] [0, 1, 2, 4] (¬ ((0 : Int) < (k : Int))) [(0, rV 0 0), (2, rV 1 0), (3, rV 2 0), (4, uV k), (16, bV false)] [(0, some (59, (a8 l m w))), (1, some (75, .ds [qH])), (2, some (75, .cs [.own 4 0 i 2 true])), (4, some (96, .ds (dI .i64 o)))] 5 zo ?_
    refine zf ?_
    refine AW.exit ?_
    refine kK [.no, .no] True [(2, rV 1 0)] [(0, some (59, (a8 l m w))), (1, some (75, .cs [.own 4 0 i 2 true])), (4, some (96, .ds (dI .i64 o)))] 5 trivial ?_
    refine AW.freeze 4 (l' := [(2, rV 1 0)]) (g' := [(0, some (59, (a8 l m w))), (1, some (75, .ds [dl o i]))]) rfl (FzS.cons rfl (.same _) FzS.nil) (uP rfl rfl (FzG.to (bc := .cs [.own 4 0 i 2 true]) rfl (by rfl) (FzL.cons (@FzC.own 4 ((dI .i64 o) : List D) 0 i 2 true ((dI .i64 o) : List D) lJ yQ) FzL.nil) FzG.nil)) ?_
    obtain ⟨hz1, hz2⟩ := SeI.fin hI zo
    have hz3 : aD l u = i := k4b hz2 (by omega)
    refine AW.ret ?_
    exact kC (.inr rfl) [] (P := (((dI .i64 (dE l u)) : List D) = (dI .i64 o)) ∧ (((aD l u) : Nat) = i) ∧ (([db l m, uD (kL (uW l u)), iD (kT (uW l u))] : List D) = [db l m, uD (kL w), iD (kT w)])) zk ⟨(by first | rfl | exact hz3 | (rw [hz1]; done) | (rw [hz2]; done) | (rw [hz2, hz3]; done) | omega | (rw [hz1]; rfl) | (rw [hz2, hz3]; rfl)), (by first | rfl | exact hz3 | (rw [hz1]; done) | (rw [hz2]; done) | (rw [hz2, hz3]; done) | omega | (rw [hz1]; rfl) | (rw [hz2, hz3]; rfl)), (by first | rfl | exact hz3 | (rw [hz1]; done) | (rw [hz2]; done) | (rw [hz2, hz3]; done) | omega | (rw [hz1]; rfl) | (rw [hz2, hz3]; rfl))⟩
theorem lK {p : Prop} (h : p := by rw [kc9, kc3, kc2 (by first | omega | (simp only [kR, kQ, pbL_len, qJ, ka4, kb2, kb5, kb3, kb1, kb4, kc4, kd0, kc8, kc3] <;> omega))]) : p := h
abbrev a7 (l : List Int) (m : Nat) (w : RS) : BC := .ds [D.sl (dI .u8 l) m, iD (((kL w) : Nat) : Int), iD (kT w)]
theorem k9s (l : List Int) (m : Nat) (u : RS) (hm : ka1 l = m) (hb : m ≤ 1000000) (hy : Byt l) (hu : kL u ≤ m) : Fun 70 [.c (.ptr 0 0)] (kG [(0, some (59, .ds [D.sl (dI .u8 l) m, iD (((kL u) : Nat) : Int), iD (kT u)]))]) 1 (sV .i64 (cV l u) (ka1 (cV l u))) (kG [(0, some (59, .ds [D.sl (dI .u8 l) m, iD (((kL (eK l u)) : Nat) : Int), iD (kT (eK l u))]))]) 1 := by
  refine Fun.mk (n := 24) Try.func70 rfl rfl (ka5 rfl) ?_
  intro cx hcx
  refine kK [.no] True [(0, rV 0 0)] [(0, some (59, .ds [db l m, uD (kL u), iD (kT u)]))] 1 trivial ?_
  refine kX [.no] True [(0, rV 0 0), (3, nV)] trivial ?_
  refine AW.seq ?_
  have hx1 : ((kL (kD 2 l u)) ≤ m) := (uX (zo) (uJ))
  have hx2 : ((kV l u) ≤ 65535) := (yE (kP : Byt l) u)
  refine kK [.no, .call [0] (uV (kV l u)) [(0, some (59, .ds [db l m, uD (kL (kD 2 l u)), iD (kT (kD 2 l u))]))] 1 [] none, .no] _ [(0, rV 0 0), (3, nV), (4, uV (kV l u))] [(0, some (59, .ds [db l m, uD (kL (kD 2 l u)), iD (kT (kD 2 l u))]))] 1 (vC l m u zo zo (kP : Byt l) uJ) ?_
  refine AW.block ?_
  refine AW.adoptS 3 1 3 rfl ?_
  refine kW 1 hcx (fun (x : {x : Nat × Nat × RS × List Int // match x with | (k, i, w, o) => (DcI l u k w o) ∧ (ka1 o = i * 1 ∧ i + k ≤ 65535) ∧ (kL w ≤ m)}) => match x with | ⟨(k, i, w, o), _⟩ => (⟨[(0, rV 0 0), (3, oV 2 0 i 1), (4, uV k)], [(0, some (59, (a7 l m w))), (2, some (3, .ds (dI .i64 o)))], 3⟩ : ES)) (fun x => match x with | ⟨(k, i, w, o), _⟩ => k) ⟨(((kV l u) : Nat), (0 : Nat), ((kD 2 l u) : RS), (([] : List Int) : List Int)), ⟨(DcI.zero l u), ⟨rfl, by omega⟩, zo⟩⟩ [(2, 1)] (P := (kM 0) ∧ (kM 0) ∧ (kM 0) ∧ (kN (kV l u : Int)) ∧ (k8 [db l m, uD (kL (kD 2 l u)), iD (kT (kD 2 l u))]) ∧ (((dI .i64 ([] : List Int)) : List D) = ([] : List D))) zk ⟨rfl, rfl, rfl, rfl, rfl, (by first | rfl | with_reducible assumption)⟩ ?_
  rintro ⟨⟨k, i, w, o⟩, hinv0⟩
  obtain ⟨hI, ho, hw⟩ : (DcI l u k w o) ∧ (ka1 o = i * 1 ∧ i + k ≤ 65535) ∧ (kL w ≤ m) := hinv0
  refine uI (l := [(0, rV 0 0), (3, oV 2 0 i 1), (4, uV k)]) (g := [(0, some (59, (a7 l m w))), (2, some (3, .ds (dI .i64 o)))]) (nx := 3) rfl rfl rfl ?_
  refine AW.seq ?_
  by_cases hx3 : ((0 : Int) < ((k : Nat) : Int))
  · by_cases hx4 : ((kT w) = 0)
    · refine zr (.no :: .b true :: kU 5 [.b true, .no]) [0, 3, 4, 15] [0, 2] ((((0 : Int) < (k : Int))) ∧ (((kT w) = 0))) [(0, rV 0 0), (3, oV 2 0 i 1), (4, uV k), (15, bV true)] [(0, some (59, (a7 l m w))), (2, some (3, .ds (dI .i64 o)))] 3 ⟨zo, zo⟩ ?_
      refine vD ?_
      refine AW.seq ?_
      refine AW.block ?_
      have hx5 : ((kL (kD 2 l w)) ≤ m) := (uX (zo) (uJ))
      have hx6 : ((kV l w) ≤ 65535) := (yE (kP : Byt l) w)
      refine aX [.no, .no, .call [0] (uV (kV l w)) [(0, some (59, .ds [db l m, uD (kL (kD 2 l w)), iD (kT (kD 2 l w))]))] 1 [] none, .no, .ap none (i + 1) (dI .i64 (o ++ ([(kV l w : Int)] : List Int))), .no] ((_) ∧ ([uD (kV l w)].length = 1 * 1) ∧ (((dI .i64 o) : List D).length = i * 1) ∧ ((i + 1) * 8 ≤ 140737488355328) ∧ (i + 1 = (i + 1)) ∧ (((dI .i64 o) : List D) ++ [uD (kV l w)] = (dI .i64 (o ++ ([(kV l w : Int)] : List Int))))) [(0, rV 0 0), (3, oV 4 0 (i + 1) 1), (4, uV k)] [(0, some (59, .ds [db l m, uD (kL (kD 2 l w)), iD (kT (kD 2 l w))])), (4, some (3, .ds (dI .i64 (o ++ ([(kV l w : Int)] : List Int)))))] 5 ⟨(vC l m w zo zo (kP : Byt l) uJ), yQ, yQ, zo, zo, (qD .i64 o ([(kV l w : Int)] : List Int))⟩ ?_
      refine yH [.no, .w, .no] (qL ((k : Int) - 1)) [(0, rV 0 0), (3, oV 4 0 (i + 1) 1), (4, iV (↑k - 1))] ⟨by omega, by omega⟩ ?_
      exact qQ ⟨(((k - 1) : Nat), ((i + 1) : Nat), ((kD 2 l w) : RS), ((o ++ ([(kV l w : Int)] : List Int)) : List Int)), ⟨(hI.step zo zo), lI, zo⟩⟩ [(2, 4)] (P := (kM 0) ∧ (kM 0) ∧ (kM (i + 1)) ∧ (((((k - 1) : Nat) : Int) : Int) = ((k : Int) - 1)) ∧ (k8 [db l m, uD (kL (kD 2 l w)), iD (kT (kD 2 l w))]) ∧ (k8 (dI .i64 (o ++ ([(kV l w : Int)] : List Int))))) zk ⟨rfl, rfl, rfl, lH, rfl, rfl⟩ (show (k - 1) < k from (by first | omega | (show _ < _; simp; omega)))
    · refine zr (.no :: .b true :: kU 5 [.b false, .no]) [0, 3, 4, 15] [0, 2] ((((0 : Int) < (k : Int))) ∧ (¬ ((kT w) = 0))) [(0, rV 0 0), (3, oV 2 0 i 1), (4, uV k), (15, bV false)] [(0, some (59, (a7 l m w))), (2, some (3, .ds (dI .i64 o)))] 3 ⟨zo, zo⟩ ?_
      refine zf ?_
      refine AW.exit ?_
      refine kK [.no, .no] True [(2, oV 2 0 i 1)] [(0, some (59, (a7 l m w))), (2, some (3, .ds (dI .i64 o)))] 3 trivial ?_
      refine AW.freeze 2 (l' := [(2, sV .i64 o i)]) (g' := [(0, some (59, (a7 l m w)))]) rfl (FzS.cons rfl (.e (.c (@FzC.own 2 ((dI .i64 o) : List D) 0 i 1 true ((dI .i64 o) : List D) lK yQ))) FzS.nil) (uP rfl rfl FzG.nil) ?_
      obtain ⟨hz1, hz2⟩ := DcI.fin hI zo
      have hz3 : ka1 (cV l u) = i := by rw [hz2]; omega
      refine AW.ret ?_
      exact kC (.inr rfl) [] (P := (((dI .i64 (cV l u)) : List D) = (dI .i64 o)) ∧ (((ka1 (cV l u)) : Nat) = i) ∧ (([db l m, uD (kL (eK l u)), iD (kT (eK l u))] : List D) = [db l m, uD (kL w), iD (kT w)])) zk ⟨(by first | rfl | exact hz3 | (rw [hz1]; done) | (rw [hz2]; done) | (rw [hz2, hz3]; done) | omega | (rw [hz1]; rfl) | (rw [hz2, hz3]; rfl)), (by first | rfl | exact hz3 | (rw [hz1]; done) | (rw [hz2]; done) | (rw [hz2, hz3]; done) | omega | (rw [hz1]; rfl) | (rw [hz2, hz3]; rfl)), (by first | rfl | exact hz3 | (rw [hz1]; done) | (rw [hz2]; done) | (rw [hz2, hz3]; done) | omega | (rw [hz1]; rfl) | (rw [hz2, hz3]; rfl))⟩
  · refine zr [.no, .b false, .no, .no] [0, 3, 4, 15] [0, 2] (¬ ((0 : Int) < (k : Int))) [(0, rV 0 0), (3, oV 2 0 i 1), (4, uV k), (15, bV false)] [(0, some (59, (a7 l m w))), (2, some (3, .ds (dI .i64 o)))] 3 zo ?_
    refine zf ?_
    refine AW.exit ?_
    refine kK [.no, .no] True [(2, oV 2 0 i 1)] [(0, some (59, (a7 l m w))), (2, some (3, .ds (dI .i64 o)))] 3 trivial ?_
    refine AW.freeze 2 (l' := [(2, sV .i64 o i)]) (g' := [(0, some (59, (a7 l m w)))]) rfl (FzS.cons rfl (.e (.c (@FzC.own 2 ((dI .i64 o) : List D) 0 i 1 true ((dI .i64 o) : List D) lK yQ))) FzS.nil) (uP rfl rfl FzG.nil) ?_
    obtain ⟨hz1, hz2⟩ := DcI.fin hI zo
    have hz3 : ka1 (cV l u) = i := by rw [hz2]; omega
    refine AW.ret ?_
    exact kC (.inr rfl) [] (P := (((dI .i64 (cV l u)) : List D) = (dI .i64 o)) ∧ (((ka1 (cV l u)) : Nat) = i) ∧ (([db l m, uD (kL (eK l u)), iD (kT (eK l u))] : List D) = [db l m, uD (kL w), iD (kT w)])) zk ⟨(by first | rfl | exact hz3 | (rw [hz1]; done) | (rw [hz2]; done) | (rw [hz2, hz3]; done) | omega | (rw [hz1]; rfl) | (rw [hz2, hz3]; rfl)), (by first | rfl | exact hz3 | (rw [hz1]; done) | (rw [hz2]; done) | (rw [hz2, hz3]; done) | omega | (rw [hz1]; rfl) | (rw [hz2, hz3]; rfl)), (by first | rfl | exact hz3 | (rw [hz1]; done) | (rw [hz2]; done) | (rw [hz2, hz3]; done) | omega | (rw [hz1]; rfl) | (rw [hz2, hz3]; rfl))⟩
abbrev a6 (l : List Int) (m : Nat) (w : RS) : BC := .ds [D.sl (dI .u8 l) m, iD (((kL w) : Nat) : Int), iD (kT w)]
theorem k9p (l : List Int) (m : Nat) (u : RS) (hm : ka1 l = m) (hb : m ≤ 1000000) (hy : Byt l) (hu : kL u ≤ m) : Fun 58 [.c (.ptr 0 0)] (kG [(0, some (59, .ds [D.sl (dI .u8 l) m, iD (((kL u) : Nat) : Int), iD (kT u)]))]) 1 (qY (qA (bJ l u)) (ka1 (bJ l u))) (kG [(0, some (59, .ds [D.sl (dI .u8 l) m, iD (((kL (vN l u)) : Nat) : Int), iD (kT (vN l u))]))]) 1 := by
  refine Fun.mk (n := 24) Try.func58 rfl rfl (ka5 rfl) ?_
  intro cx hcx
  refine kK [.no] True [(0, rV 0 0)] [(0, some (59, .ds [db l m, uD (kL u), iD (kT u)]))] 1 trivial ?_
  refine kX [.no] True [(0, rV 0 0), (3, nV)] trivial ?_
  refine AW.seq ?_
  have hx1 : ((kL (kD 2 l u)) ≤ m) := (uX (zo) (uJ))
  have hx2 : ((kV l u) ≤ 65535) := (yE (kP : Byt l) u)
  refine kK [.no, .call [0] (uV (kV l u)) [(0, some (59, .ds [db l m, uD (kL (kD 2 l u)), iD (kT (kD 2 l u))]))] 1 [] none, .no] _ [(0, rV 0 0), (3, nV), (4, uV (kV l u))] [(0, some (59, .ds [db l m, uD (kL (kD 2 l u)), iD (kT (kD 2 l u))]))] 1 (vC l m u zo zo (kP : Byt l) uJ) ?_
  refine AW.block ?_
  refine AW.adoptS 3 1 63 rfl ?_
  refine kW 1 hcx (fun (x : {x : Nat × Nat × RS × List (List Int) // match x with | (k, i, w, o) => (MzI l u k w o) ∧ (ka1 o = i * 1 ∧ i + k ≤ 65535) ∧ (kL w ≤ m)}) => match x with | ⟨(k, i, w, o), _⟩ => (⟨[(0, rV 0 0), (3, oV 2 0 i 1), (4, uV k)], [(0, some (59, (a6 l m w))), (2, some (63, .ds (qA o)))], 3⟩ : ES)) (fun x => match x with | ⟨(k, i, w, o), _⟩ => k) ⟨(((kV l u) : Nat), (0 : Nat), ((kD 2 l u) : RS), (([] : List (List Int)) : List (List Int))), ⟨(MzI.zero l u), ⟨rfl, by omega⟩, zo⟩⟩ [(2, 1)] (P := (kM 0) ∧ (kM 0) ∧ (kM 0) ∧ (kN (kV l u : Int)) ∧ (k8 [db l m, uD (kL (kD 2 l u)), iD (kT (kD 2 l u))]) ∧ (((qA ([] : List (List Int))) : List D) = ([] : List D))) zk ⟨rfl, rfl, rfl, rfl, rfl, (by first | rfl | with_reducible assumption)⟩ ?_
  rintro ⟨⟨k, i, w, o⟩, hinv0⟩
  obtain ⟨hI, ho, hw⟩ : (MzI l u k w o) ∧ (ka1 o = i * 1 ∧ i + k ≤ 65535) ∧ (kL w ≤ m) := hinv0
  refine uI (l := [(0, rV 0 0), (3, oV 2 0 i 1), (4, uV k)]) (g := [(0, some (59, (a6 l m w))), (2, some (63, .ds (qA o)))]) (nx := 3) rfl rfl rfl ?_
  refine AW.seq ?_
  by_cases hx3 : ((0 : Int) < ((k : Nat) : Int))
  · by_cases hx4 : ((kT w) = 0)
    · refine zr (.no :: .b true :: kU 5 [.b true, .no]) [0, 3, 4, 15] [0, 2] ((((0 : Int) < (k : Int))) ∧ (((kT w) = 0))) [(0, rV 0 0), (3, oV 2 0 i 1), (4, uV k), (15, bV true)] [(0, some (59, (a6 l m w))), (2, some (63, .ds (qA o)))] 3 ⟨zo, zo⟩ ?_
      refine vD ?_
      refine AW.seq ?_
      refine AW.block ?_
      have hx5 : ((kL (eK l w)) ≤ m) := (k3d (zo) (uJ))
      have hx6 : ((ka1 (cV l w)) ≤ 65535) := (wW (kP : Byt l) w)
      refine aX [.no, .no, .call [0] (sV .i64 (cV l w) (ka1 (cV l w))) [(0, some (59, .ds [db l m, uD (kL (eK l w)), iD (kT (eK l w))]))] 1 [] none, .no, .ap none (i + 1) (qA (o ++ ([(cV l w)] : List (List Int)))), .no] ((_) ∧ ([dl (cV l w) (ka1 (cV l w))].length = 1 * 1) ∧ (((qA o) : List D).length = i * 1) ∧ ((i + 1) * 24 ≤ 140737488355328) ∧ (i + 1 = (i + 1)) ∧ (((qA o) : List D) ++ [dl (cV l w) (ka1 (cV l w))] = (qA (o ++ ([(cV l w)] : List (List Int)))))) [(0, rV 0 0), (3, oV 4 0 (i + 1) 1), (4, uV k)] [(0, some (59, .ds [db l m, uD (kL (eK l w)), iD (kT (eK l w))])), (4, some (63, .ds (qA (o ++ ([(cV l w)] : List (List Int))))))] 5 ⟨(k9s l m w zo zo (kP : Byt l) uJ), yQ, yQ, zo, zo, (wJ o (cV l w) (ka1 (cV l w)) (by first | rfl | omega))⟩ ?_
      refine yH [.no, .w, .no] (qL ((k : Int) - 1)) [(0, rV 0 0), (3, oV 4 0 (i + 1) 1), (4, iV (↑k - 1))] ⟨by omega, by omega⟩ ?_
      exact qQ ⟨(((k - 1) : Nat), ((i + 1) : Nat), ((eK l w) : RS), ((o ++ ([(cV l w)] : List (List Int))) : List (List Int))), ⟨(hI.step zo zo), lI, zo⟩⟩ [(2, 4)] (P := (kM 0) ∧ (kM 0) ∧ (kM (i + 1)) ∧ (((((k - 1) : Nat) : Int) : Int) = ((k : Int) - 1)) ∧ (k8 [db l m, uD (kL (eK l w)), iD (kT (eK l w))]) ∧ (k8 (qA (o ++ ([(cV l w)] : List (List Int)))))) zk ⟨rfl, rfl, rfl, lH, rfl, rfl⟩ (show (k - 1) < k from (by first | omega | (show _ < _; simp; omega)))
    · refine zr (.no :: .b true :: kU 5 [.b false, .no]) [0, 3, 4, 15] [0, 2] ((((0 : Int) < (k : Int))) ∧ (¬ ((kT w) = 0))) [(0, rV 0 0), (3, oV 2 0 i 1), (4, uV k), (15, bV false)] [(0, some (59, (a6 l m w))), (2, some (63, .ds (qA o)))] 3 ⟨zo, zo⟩ ?_
      refine zf ?_
      refine AW.exit ?_
      refine kK [.no, .no] True [(2, oV 2 0 i 1)] [(0, some (59, (a6 l m w))), (2, some (63, .ds (qA o)))] 3 trivial ?_
      refine AW.freeze 2 (l' := [(2, qY (qA o) i)]) (g' := [(0, some (59, (a6 l m w)))]) rfl (FzS.cons rfl (.e (.c (@FzC.own 2 ((qA o) : List D) 0 i 1 true ((qA o) : List D) lK yQ))) FzS.nil) (uP rfl rfl FzG.nil) ?_
      obtain ⟨hz1, hz2⟩ := MzI.fin hI zo
      have hz3 : ka1 (bJ l u) = i := by rw [hz2]; omega
      refine AW.ret ?_
      exact kC (.inr rfl) [] (P := (((qA (bJ l u)) : List D) = (qA o)) ∧ (((ka1 (bJ l u)) : Nat) = i) ∧ (([db l m, uD (kL (vN l u)), iD (kT (vN l u))] : List D) = [db l m, uD (kL w), iD (kT w)])) zk ⟨(by first | rfl | exact hz3 | (rw [hz1]; done) | (rw [hz2]; done) | (rw [hz2, hz3]; done) | omega | (rw [hz1]; rfl) | (rw [hz2, hz3]; rfl)), (by first | rfl | exact hz3 | (rw [hz1]; done) | (rw [hz2]; done) | (rw [hz2, hz3]; done) | omega | (rw [hz1]; rfl) | (rw [hz2, hz3]; rfl)), (by first | rfl | exact hz3 | (rw [hz1]; done) | (rw [hz2]; done) | (rw [hz2, hz3]; done) | omega | (rw [hz1]; rfl) | (rw [hz2, hz3]; rfl))⟩
  · refine zr [.no, .b false, .no, .no] [0, 3, 4, 15] [0, 2] (¬ ((0 : Int) < (k : Int))) [(0, rV 0 0), (3, oV 2 0 i 1), (4, uV k), (15, bV false)] [(0, some (59, (a6 l m w))), (2, some (63, .ds (qA o)))] 3 zo ?_
    refine zf ?_
    refine AW.exit ?_
    refine kK [.no, .no] True [(2, oV 2 0 i 1)] [(0, some (59, (a6 l m w))), (2, some (63, .ds (qA o)))] 3 trivial ?_
    refine AW.freeze 2 (l' := [(2, qY (qA o) i)]) (g' := [(0, some (59, (a6 l m w)))]) rfl (FzS.cons rfl (.e (.c (@FzC.own 2 ((qA o) : List D) 0 i 1 true ((qA o) : List D) lK yQ))) FzS.nil) (uP rfl rfl FzG.nil) ?_
    obtain ⟨hz1, hz2⟩ := MzI.fin hI zo
    have hz3 : ka1 (bJ l u) = i := by rw [hz2]; omega
    refine AW.ret ?_
    exact kC (.inr rfl) [] (P := (((qA (bJ l u)) : List D) = (qA o)) ∧ (((ka1 (bJ l u)) : Nat) = i) ∧ (([db l m, uD (kL (vN l u)), iD (kT (vN l u))] : List D) = [db l m, uD (kL w), iD (kT w)])) zk ⟨(by first | rfl | exact hz3 | (rw [hz1]; done) | (rw [hz2]; done) | (rw [hz2, hz3]; done) | omega | (rw [hz1]; rfl) | (rw [hz2, hz3]; rfl)), (by first | rfl | exact hz3 | (rw [hz1]; done) | (rw [hz2]; done) | (rw [hz2, hz3]; done) | omega | (rw [hz1]; rfl) | (rw [hz2, hz3]; rfl)), (by first | rfl | exact hz3 | (rw [hz1]; done) | (rw [hz2]; done) | (rw [hz2, hz3]; done) | omega | (rw [hz1]; rfl) | (rw [hz2, hz3]; rfl))⟩
abbrev vR (l : List Int) (w : RS) := dE l (vN l (uW l (kD 2 l w)))
abbrev a5 (l : List Int) (m : Nat) (w : RS) : BC := .ds [D.sl (dI .u8 l) m, iD (((kL w) : Nat) : Int), iD (kT w)]
abbrev rU (l : List Int) (m : Nat) (w : RS) : BC := .ds [D.sl (dI .u8 l) m, iD (((kL (uW l (vN l (uW l (kD 2 l w))))) : Nat) : Int), iD (kT (uW l (vN l (uW l (kD 2 l w)))))]
@[reducible] def q1M (x : List Bx) : E1 := (.c (.d (D.sl (qI x) (ka1 x))))
theorem k66 (l : List Int) (m : Nat) (u : RS) (hm : ka1 l = m) (hb : m ≤ 1000000) (hy : Byt l) (hu : kL u ≤ m) : Fun 42 [.c (.ptr 0 0)] (kG [(0, some (59, .ds [D.sl (dI .u8 l) m, iD (((kL u) : Nat) : Int), iD (kT u)]))]) 1 (.e (q1M (yY l u))) (kG [(0, some (59, .ds [D.sl (dI .u8 l) m, iD (((kL (j7 l u)) : Nat) : Int), iD (kT (j7 l u))]))]) 1 := by
  refine Fun.mk (n := 36) Try.func42 rfl rfl (ka5 rfl) ?_
  intro cx hcx
  refine kK [.no] True [(0, rV 0 0)] [(0, some (59, .ds [db l m, uD (kL u), iD (kT u)]))] 1 trivial ?_
  refine kX [.no] True [(0, rV 0 0), (3, nV)] trivial ?_
  refine AW.seq ?_
  have hx1 : ((kL (kD 2 l u)) ≤ m) := (uX (zo) (uJ))
  have hx2 : ((kV l u) ≤ 65535) := (yE (kP : Byt l) u)
  refine kK [.no, .call [0] (uV (kV l u)) [(0, some (59, .ds [db l m, uD (kL (kD 2 l u)), iD (kT (kD 2 l u))]))] 1 [] none, .no] _ [(0, rV 0 0), (3, nV), (4, uV (kV l u))] [(0, some (59, .ds [db l m, uD (kL (kD 2 l u)), iD (kT (kD 2 l u))]))] 1 (vC l m u zo zo (kP : Byt l) uJ) ?_
  refine AW.block ?_
  refine AW.adoptS 3 4 78 rfl ?_
  refine kW 1 hcx (fun (x : {x : Nat × Nat × RS × List Bx // match x with | (k, i, w, o) => (DbI l u k w o) ∧ (ka1 o = i * 1 ∧ i + k ≤ 65535) ∧ (kL w ≤ m)}) => match x with | ⟨(k, i, w, o), _⟩ => (⟨[(0, rV 0 0), (3, oV 2 0 i 4), (4, uV k)], [(0, some (59, (a5 l m w))), (2, some (78, .ds (qI o)))], 3⟩ : ES)) (fun x => match x with | ⟨(k, i, w, o), _⟩ => k) ⟨(((kV l u) : Nat), (0 : Nat), ((kD 2 l u) : RS), (([] : List Bx) : List Bx)), ⟨(DbI.zero l u), ⟨rfl, by omega⟩, zo⟩⟩ [(2, 1)] (P := (kM 0) ∧ (kM 0) ∧ (kM 0) ∧ (kN (kV l u : Int)) ∧ (k8 [db l m, uD (kL (kD 2 l u)), iD (kT (kD 2 l u))]) ∧ (((qI ([] : List Bx)) : List D) = ([] : List D))) zk ⟨rfl, rfl, rfl, rfl, rfl, (by first | rfl | with_reducible assumption)⟩ ?_
  rintro ⟨⟨k, i, w, o⟩, hinv0⟩
  obtain ⟨hI, ho, hw⟩ : (DbI l u k w o) ∧ (ka1 o = i * 1 ∧ i + k ≤ 65535) ∧ (kL w ≤ m) := hinv0
  refine uI (l := [(0, rV 0 0), (3, oV 2 0 i 4), (4, uV k)]) (g := [(0, some (59, (a5 l m w))), (2, some (78, .ds (qI o)))]) (nx := 3) rfl rfl rfl ?_
  refine AW.seq ?_
  by_cases hx3 : ((0 : Int) < ((k : Nat) : Int))
  · by_cases hx4 : ((kT w) = 0)
    · refine zr (.no :: .b true :: kU 5 [.b true, .no]) [0, 3, 4, 16] [0, 2] ((((0 : Int) < (k : Int))) ∧ (((kT w) = 0))) [(0, rV 0 0), (3, oV 2 0 i 4), (4, uV k), (16, bV true)] [(0, some (59, (a5 l m w))), (2, some (78, .ds (qI o)))] 3 ⟨zo, zo⟩ ?_
      refine vD ?_
      refine AW.seq ?_
      refine AW.block ?_
      have hx5 : ((kL (kD 2 l w)) ≤ m) := (uX (zo) (uJ))
      have hx6 : ((kV l w) ≤ 65535) := (yE (kP : Byt l) w)
      refine kK [.no, .call [0] (uV (kV l w)) [(0, some (59, .ds [db l m, uD (kL (kD 2 l w)), iD (kT (kD 2 l w))]))] 1 [] none, .no, .no, .no] _ [(0, rV 0 0), (3, oV 2 0 i 4), (4, uV k), (5, rV 3 0)] [(0, some (59, .ds [db l m, uD (kL (kD 2 l w)), iD (kT (kD 2 l w))])), (2, some (78, .ds (qI o))), (3, some (78, .ds [uD (kV l w), qH, qH, qH]))] 4 (vC l m w zo zo (kP : Byt l) uJ) ?_
      have hx7 : ((kL (uW l (kD 2 l w))) ≤ m) := (l5 (zo) (uJ))
      have hx8 : ((ka1 (dE l (kD 2 l w))) = ((aD l (kD 2 l w)) * 2)) := (cB (kP : Byt l) (kD 2 l w)).1
      have hx9 : ((aD l (kD 2 l w)) ≤ 65535) := (cB (kP : Byt l) (kD 2 l w)).2
      refine kK [.no, .call [0] (.e (.agg [.d (dl (dE l (kD 2 l w)) (aD l (kD 2 l w)))])) [(0, some (59, .ds [db l m, uD (kL (uW l (kD 2 l w))), iD (kT (uW l (kD 2 l w)))]))] 1 [] none, .no, .no] _ [(0, rV 0 0), (3, oV 2 0 i 4), (4, uV k), (5, rV 3 0)] [(0, some (59, .ds [db l m, uD (kL (uW l (kD 2 l w))), iD (kT (uW l (kD 2 l w)))])), (2, some (78, .ds (qI o))), (3, some (78, .ds [uD (kV l w), dl (dE l (kD 2 l w)) (aD l (kD 2 l w)), qH, qH]))] 4 (k7k l m (kD 2 l w) zo zo (kP : Byt l) uJ) ?_
      have hx10 : ((kL (vN l (uW l (kD 2 l w)))) ≤ m) := (k12 (zo) (uJ))
      have hx11 : ((ka1 (bJ l (uW l (kD 2 l w)))) ≤ 65535) := (wI (kP : Byt l) (uW l (kD 2 l w)))
      have hx12 : (MsW (bJ l (uW l (kD 2 l w)))) := (k6m (kP : Byt l) (uW l (kD 2 l w)))
      refine kK [.no, .call [0] (qY (qA (bJ l (uW l (kD 2 l w)))) (ka1 (bJ l (uW l (kD 2 l w))))) [(0, some (59, .ds [db l m, iD (kL (vN l (uW l (kD 2 l w))) : Int), iD (kT (vN l (uW l (kD 2 l w))))]))] 1 [] none, .no, .no] _ [(0, rV 0 0), (3, oV 2 0 i 4), (4, uV k), (5, rV 3 0)] [(0, some (59, .ds [db l m, iD (kL (vN l (uW l (kD 2 l w))) : Int), iD (kT (vN l (uW l (kD 2 l w))))])), (2, some (78, .ds (qI o))), (3, some (78, .ds [uD (kV l w), dl (dE l (kD 2 l w)) (aD l (kD 2 l w)), D.sl (qA (bJ l (uW l (kD 2 l w)))) (ka1 (bJ l (uW l (kD 2 l w)))), qH]))] 4 (k9p l m (uW l (kD 2 l w)) zo zo (kP : Byt l) uJ) ?_
      have hx13 : ((kL (uW l (vN l (uW l (kD 2 l w))))) ≤ m) := (l5 (zo) (uJ))
      have hx14 : ((ka1 (vR l w)) = ((aD l (vN l (uW l (kD 2 l w)))) * 2)) := (cB (kP : Byt l) (vN l (uW l (kD 2 l w)))).1
      have hx15 : ((aD l (vN l (uW l (kD 2 l w)))) ≤ 65535) := (cB (kP : Byt l) (vN l (uW l (kD 2 l w)))).2
      refine kK [.no, .call [0] (.e (.agg [.d (dl (vR l w) (aD l (vN l (uW l (kD 2 l w)))))])) [(0, some (59, (rU l m w)))] 1 [] none, .no, .no] _ [(0, rV 0 0), (3, oV 2 0 i 4), (4, uV k), (5, rV 3 0)] [(0, some (59, (rU l m w))), (2, some (78, .ds (qI o))), (3, some (78, .ds [uD (kV l w), dl (dE l (kD 2 l w)) (aD l (kD 2 l w)), D.sl (qA (bJ l (uW l (kD 2 l w)))) (ka1 (bJ l (uW l (kD 2 l w)))), dl (vR l w) (aD l (vN l (uW l (kD 2 l w))))]))] 4 (k7k l m (vN l (uW l (kD 2 l w))) zo zo (kP : Byt l) uJ) ?_
      refine aX [.no, .no, .no, .ap none (i + 1) (qI (o ++ ([(bX (kV l w : Int) (dE l (kD 2 l w)) (aD l (kD 2 l w)) (bJ l (uW l (kD 2 l w))) (vR l w) (aD l (vN l (uW l (kD 2 l w)))))] : List Bx))), .no] (([uD (kV l w), dl (dE l (kD 2 l w)) (aD l (kD 2 l w)), D.sl (qA (bJ l (uW l (kD 2 l w)))) (ka1 (bJ l (uW l (kD 2 l w)))), dl (vR l w) (aD l (vN l (uW l (kD 2 l w))))].length = 1 * 4) ∧ (((qI o) : List D).length = i * 4) ∧ ((i + 1) * 80 ≤ 140737488355328) ∧ (i + 1 = (i + 1)) ∧ (((qI o) : List D) ++ [uD (kV l w), dl (dE l (kD 2 l w)) (aD l (kD 2 l w)), D.sl (qA (bJ l (uW l (kD 2 l w)))) (ka1 (bJ l (uW l (kD 2 l w)))), dl (vR l w) (aD l (vN l (uW l (kD 2 l w))))] = (qI (o ++ ([(bX (kV l w : Int) (dE l (kD 2 l w)) (aD l (kD 2 l w)) (bJ l (uW l (kD 2 l w))) (vR l w) (aD l (vN l (uW l (kD 2 l w)))))] : List Bx))))) [(0, rV 0 0), (3, oV 5 0 (i + 1) 4), (4, uV k)] [(0, some (59, (rU l m w))), (5, some (78, .ds (qI (o ++ ([(bX (kV l w : Int) (dE l (kD 2 l w)) (aD l (kD 2 l w)) (bJ l (uW l (kD 2 l w))) (vR l w) (aD l (vN l (uW l (kD 2 l w)))))] : List Bx)))))] 6 ⟨yQ, yQ, zo, zo, (wX o (kV l w : Int) (dE l (kD 2 l w)) (aD l (kD 2 l w)) (bJ l (uW l (kD 2 l w))) (ka1 (bJ l (uW l (kD 2 l w)))) (vR l w) (aD l (vN l (uW l (kD 2 l w)))) (by first | rfl | omega))⟩ ?_
      refine yH [.no, .w, .no] (qL ((k : Int) - 1)) [(0, rV 0 0), (3, oV 5 0 (i + 1) 4), (4, iV (↑k - 1))] ⟨by omega, by omega⟩ ?_
      exact qQ ⟨(((k - 1) : Nat), ((i + 1) : Nat), ((uW l (vN l (uW l (kD 2 l w)))) : RS), ((o ++ ([(bX (kV l w : Int) (dE l (kD 2 l w)) (aD l (kD 2 l w)) (bJ l (uW l (kD 2 l w))) (vR l w) (aD l (vN l (uW l (kD 2 l w)))))] : List Bx)) : List Bx)), ⟨(hI.step zo zo), lI, zo⟩⟩ [(2, 5)] (P := (kM 0) ∧ (kM 0) ∧ (kM (i + 1)) ∧ (((((k - 1) : Nat) : Int) : Int) = ((k : Int) - 1)) ∧ (k8 [db l m, iD (((kL (uW l (vN l (uW l (kD 2 l w))))) : Nat) : Int), iD (kT (uW l (vN l (uW l (kD 2 l w)))))]) ∧ (k8 (qI (o ++ ([(bX (kV l w : Int) (dE l (kD 2 l w)) (aD l (kD 2 l w)) (bJ l (uW l (kD 2 l w))) (vR l w) (aD l (vN l (uW l (kD 2 l w)))))] : List Bx))))) zk ⟨rfl, rfl, rfl, lH, rfl, rfl⟩ (show (k - 1) < k from (by first | omega | (show _ < _; simp; omega)))
    · refine zr (.no :: .b true :: kU 5 [.b false, .no]) [0, 3, 4, 16] [0, 2] ((((0 : Int) < (k : Int))) ∧ (¬ ((kT w) = 0))) [(0, rV 0 0), (3, oV 2 0 i 4), (4, uV k), (16, bV false)] [(0, some (59, (a5 l m w))), (2, some (78, .ds (qI o)))] 3 ⟨zo, zo⟩ ?_
      refine zf ?_
      refine AW.exit ?_
      refine kK [.no, .no] True [(2, oV 2 0 i 4)] [(0, some (59, (a5 l m w))), (2, some (78, .ds (qI o)))] 3 trivial ?_
      refine AW.freeze 2 (l' := [(2, .e (eW o i))]) (g' := [(0, some (59, (a5 l m w)))]) rfl (FzS.cons rfl (.e (.c (@FzC.own 2 ((qI o) : List D) 0 i 4 true ((qI o) : List D) lJ yQ))) FzS.nil) (uP rfl rfl FzG.nil) ?_
      obtain ⟨hz1, hz2⟩ := DbI.fin hI zo
      have hz3 : ka1 (yY l u) = i := by rw [hz2]; omega
      refine AW.ret ?_
      exact kC (.inr rfl) [] (P := (((qI (yY l u)) : List D) = (qI o)) ∧ (((ka1 (yY l u)) : Nat) = i) ∧ (([db l m, uD (kL (j7 l u)), iD (kT (j7 l u))] : List D) = [db l m, uD (kL w), iD (kT w)])) zk ⟨(by first | rfl | exact hz3 | (rw [hz1]; done) | (rw [hz2]; done) | (rw [hz2, hz3]; done) | omega | (rw [hz1]; rfl) | (rw [hz2, hz3]; rfl)), (by first | rfl | exact hz3 | (rw [hz1]; done) | (rw [hz2]; done) | (rw [hz2, hz3]; done) | omega | (rw [hz1]; rfl) | (rw [hz2, hz3]; rfl)), (by first | rfl | exact hz3 | (rw [hz1]; done) | (rw [hz2]; done) | (rw [hz2, hz3]; done) | omega | (rw [hz1]; rfl) | (rw [hz2, hz3]; rfl))⟩
  · refine zr [.no, .b false, .no, .no] [0, 3, 4, 16] [0, 2] (¬ ((0 : Int) < (k : Int))) [(0, rV 0 0), (3, oV 2 0 i 4), (4, uV k), (16, bV false)] [(0, some (59, (a5 l m w))), (2, some (78, .ds (qI o)))] 3 zo ?_
    refine zf ?_
    refine AW.exit ?_
    refine kK [.no, .no] True [(2, oV 2 0 i 4)] [(0, some (59, (a5 l m w))), (2, some (78, .ds (qI o)))] 3 trivial ?_
    refine AW.freeze 2 (l' := [(2, .e (eW o i))]) (g' := [(0, some (59, (a5 l m w)))]) rfl (FzS.cons rfl (.e (.c (@FzC.own 2 ((qI o) : List D) 0 i 4 true ((qI o) : List D) lJ yQ))) FzS.nil) (uP rfl rfl FzG.nil) ?_
    obtain ⟨hz1, hz2⟩ := DbI.fin hI zo
    have hz3 : ka1 (yY l u) = i := by rw [hz2]; omega
    refine AW.ret ?_
    exact kC (.inr rfl) [] (P := (((qI (yY l u)) : List D) = (qI o)) ∧ (((ka1 (yY l u)) : Nat) = i) ∧ (([db l m, uD (kL (j7 l u)), iD (kT (j7 l u))] : List D) = [db l m, uD (kL w), iD (kT w)])) zk ⟨(by first | rfl | exact hz3 | (rw [hz1]; done) | (rw [hz2]; done) | (rw [hz2, hz3]; done) | omega | (rw [hz1]; rfl) | (rw [hz2, hz3]; rfl)), (by first | rfl | exact hz3 | (rw [hz1]; done) | (rw [hz2]; done) | (rw [hz2, hz3]; done) | omega | (rw [hz1]; rfl) | (rw [hz2, hz3]; rfl)), (by first | rfl | exact hz3 | (rw [hz1]; done) | (rw [hz2]; done) | (rw [hz2, hz3]; done) | omega | (rw [hz1]; rfl) | (rw [hz2, hz3]; rfl))⟩
end Go.Proofs.Ytalbpleglapihaa
