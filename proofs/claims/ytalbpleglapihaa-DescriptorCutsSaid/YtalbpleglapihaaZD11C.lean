/- What is read in a row. No statement is proved here. -/
import Derived.Test.YtalbpleglapihaaZD11B
namespace Go.Proofs.Ytalbpleglapihaa
open Go.ChangeShapes Go.WideShapes Go.ChangeAt Go.RowKit
open List renaming append_nil → kc8, drop_zero → kc9, length → ka1, length_append → ka4, length_cons → kb3, length_drop → kb2, length_map → kd0, length_nil → kb5, length_replicate → kb4, length_reverse → kc7, length_set → kc3, length_take → kb1, take_of_length_le → kc1
open Nat renaming le_of_ble_eq_true → ka5, le_trans → ke9, mul_one → kc4
set_option linter.unusedVariables false
set_option linter.unusedSimpArgs false
/-! chapter 11: what is read in a row -/
set_option maxHeartbeats 4000000
set_option maxRecDepth 100000
def mK (f : RS → RS) : Nat → RS → RS
  | 0, u => u
  | n + 1, u => if kT u = 0 then mK f n (f u) else u
def wI {α : Type} (f : RS → RS) (v : RS → List α) : Nat → RS → List α
  | 0, _ => []
  | n + 1, u => if kT u = 0 then v u ++ wI f v n (f u) else []
theorem o5 {f : RS → RS} {n : Nat} {u : RS} (h : kT u = 0) : mK f (n + 1) u = mK f n (f u) := if_pos h
theorem k1c {f : RS → RS} {n : Nat} {u : RS} (h : ¬ kT u = 0) : mK f n u = u := by
  cases n with
  | zero => rfl
  | succ n => exact if_neg h
theorem wH {α : Type} {f : RS → RS} {v : RS → List α} {n : Nat} {u : RS} (h : kT u = 0) : wI f v (n + 1) u = v u ++ wI f v n (f u) := if_pos h
theorem k1b {α : Type} {f : RS → RS} {v : RS → List α} {n : Nat} {u : RS} (h : ¬ kT u = 0) : wI f v n u = [] := by
  cases n with
  | zero => rfl
  | succ n => exact if_neg h
theorem hX {f : RS → RS} {m : Nat} (hf : ∀ u, kL u ≤ m → kL (f u) ≤ m) : ∀ (n : Nat) (u : RS), kL u ≤ m → kL (mK f n u) ≤ m
  | 0, u, h => h
  | n + 1, u, h => by
    by_cases hq : kT u = 0
    · rw [o5 hq]; exact hX hf n _ (hf u h)
    · rw [k1c hq]; exact h
theorem dO {α : Type} {f : RS → RS} {v : RS → List α} {s : Nat} (hv : ∀ u, (v u).length = s) : ∀ (n : Nat) (u : RS), ∃ c, c ≤ n ∧ (wI f v n u).length = c * s
  | 0, u => ⟨0, Nat.le_refl _, by rw [Nat.zero_mul]; rfl⟩
  | n + 1, u => by
    by_cases hq : kT u = 0
    · obtain ⟨c, h1, h2⟩ := dO hv n (f u)
      exact ⟨c + 1, by omega, by rw [wH hq, ka4, hv, h2, Nat.succ_mul]; omega⟩
    · exact ⟨0, by omega, by rw [k1b hq, Nat.zero_mul]; rfl⟩
theorem mJ {α : Type} {f : RS → RS} {v : RS → List α} {p : α → Prop} (hv : ∀ u, ∀ x ∈ v u, p x) : ∀ (n : Nat) (u : RS), ∀ x ∈ wI f v n u, p x
  | 0, u, x, h => by cases h
  | n + 1, u, x, h => by
    by_cases hq : kT u = 0
    · rw [wH hq] at h
      rcases List.mem_append.1 h with h | h
      · exact hv u x h
      · exact mJ hv n (f u) x h
    · rw [k1b hq] at h; cases h
def ItI {α : Type} (f : RS → RS) (v : RS → List α) (n0 : Nat) (u0 : RS) (k : Nat) (w : RS) (o : List α) : Prop := mK f n0 u0 = mK f k w ∧ wI f v n0 u0 = o ++ wI f v k w
theorem ItI.zero {α : Type} (f : RS → RS) (v : RS → List α) (n0 : Nat) (u0 : RS) : ItI f v n0 u0 n0 u0 [] := ⟨rfl, rfl⟩
theorem ItI.step {α : Type} {f : RS → RS} {v : RS → List α} {n0 : Nat} {u0 : RS} {k : Nat} {w : RS} {o : List α} (h : ItI f v n0 u0 k w o) (hk : 0 < k) (hq : kT w = 0) : ItI f v n0 u0 (k - 1) (f w) (o ++ v w) := by
  obtain ⟨k, rfl⟩ : ∃ j, k = j + 1 := ⟨k - 1, by omega⟩
  refine ⟨by rw [h.1, o5 hq]; rfl, ?_⟩
  rw [h.2, wH hq, List.append_assoc]; rfl
theorem ItI.fin {α : Type} {f : RS → RS} {v : RS → List α} {n0 : Nat} {u0 : RS} {k : Nat} {w : RS} {o : List α} (h : ItI f v n0 u0 k w o) (hk : k = 0 ∨ ¬ kT w = 0) : mK f n0 u0 = w ∧ wI f v n0 u0 = o := by
  rcases hk with rfl | hk
  · exact ⟨h.1, by rw [h.2]; exact kc8 _⟩
  · exact ⟨by rw [h.1, k1c hk], by rw [h.2, k1b hk, kc8]⟩
def seX (l : List Int) (w : RS) : List Int := [yA l w, yA l (kD 4 l w)]
def seF (l : List Int) (w : RS) : RS := kD 4 l (kD 4 l w)
def uU (l : List Int) (u : RS) : RS := mK (seF l) (kV l u) (kD 2 l u)
def dD (l : List Int) (u : RS) : List Int := wI (seF l) (seX l) (kV l u) (kD 2 l u)
def aE (l : List Int) (u : RS) : Nat := ka1 (dD l u) / 2
def SeI (l : List Int) (u : RS) (k : Nat) (w : RS) (o : List Int) : Prop := ItI (seF l) (seX l) (kV l u) (kD 2 l u) k w o
theorem SeI.zero (l : List Int) (u : RS) : SeI l u (kV l u) (kD 2 l u) [] := ItI.zero _ _ _ _
theorem SeI.step {l : List Int} {u : RS} {k : Nat} {w : RS} {o : List Int} (h : SeI l u k w o) (hk : 0 < k) (hq : kT w = 0) : SeI l u (k - 1) (kD 4 l (kD 4 l w)) (o ++ [yA l w, yA l (kD 4 l w)]) := ItI.step h hk hq
theorem SeI.fin {l : List Int} {u : RS} {k : Nat} {w : RS} {o : List Int} (h : SeI l u k w o) (hk : k = 0 ∨ ¬ kT w = 0) : uU l u = w ∧ dD l u = o := ItI.fin h hk
theorem k45 {l : List Int} {u : RS} {o : List Int} {i : Nat} (h : dD l u = o) (ho : ka1 o = i * 2) : aE l u = i := by unfold aE; rw [h, ho]; omega
theorem k7q {m : Nat} {l : List Int} (hm : l.length = m) (u : RS) (h : kL u ≤ m) : kL (seF l u) ≤ m := uW hm (uW hm h)
theorem lZ {m : Nat} {l : List Int} {u : RS} (hm : l.length = m) (hu : kL u ≤ m) : kL (uU l u) ≤ m := hX (k7q hm) _ _ (uW hm hu)
theorem b9 {l : List Int} (hy : Byt l) (u : RS) : ka1 (dD l u) = aE l u * 2 ∧ aE l u ≤ 65535 := by
  obtain ⟨c, h1, h2⟩ := dO (f := seF l) (v := seX l) (s := 2) (fun _ => rfl) (kV l u) (kD 2 l u)
  have h3 := yE hy u
  have h4 : aE l u = c := k45 rfl h2
  rw [h4]; exact ⟨h2, by omega⟩
def dcX (l : List Int) (w : RS) : List Int := [((kV l w : Nat) : Int)]
def eG (l : List Int) (u : RS) : RS := mK (kD 2 l) (kV l u) (kD 2 l u)
def cU (l : List Int) (u : RS) : List Int := wI (kD 2 l) (dcX l) (kV l u) (kD 2 l u)
def DcI (l : List Int) (u : RS) (k : Nat) (w : RS) (o : List Int) : Prop := ItI (kD 2 l) (dcX l) (kV l u) (kD 2 l u) k w o
theorem DcI.zero (l : List Int) (u : RS) : DcI l u (kV l u) (kD 2 l u) [] := ItI.zero _ _ _ _
theorem DcI.step {l : List Int} {u : RS} {k : Nat} {w : RS} {o : List Int} (h : DcI l u k w o) (hk : 0 < k) (hq : kT w = 0) : DcI l u (k - 1) (kD 2 l w) (o ++ [((kV l w : Nat) : Int)]) := ItI.step h hk hq
theorem DcI.fin {l : List Int} {u : RS} {k : Nat} {w : RS} {o : List Int} (h : DcI l u k w o) (hk : k = 0 ∨ ¬ kT w = 0) : eG l u = w ∧ cU l u = o := ItI.fin h hk
theorem k37 {m : Nat} {l : List Int} {u : RS} (hm : l.length = m) (hu : kL u ≤ m) : kL (eG l u) ≤ m := hX (fun _ h => uW hm h) _ _ (uW hm hu)
theorem wQ {l : List Int} (hy : Byt l) (u : RS) : ka1 (cU l u) ≤ 65535 := by
  obtain ⟨c, h1, h2⟩ := dO (f := kD 2 l) (v := dcX l) (s := 1) (fun _ => rfl) (kV l u) (kD 2 l u)
  have h3 := yE hy u
  have h4 : ka1 (cU l u) = c * 1 := h2
  omega
def mzX (l : List Int) (w : RS) : List (List Int) := [cU l w]
def vO (l : List Int) (u : RS) : RS := mK (eG l) (kV l u) (kD 2 l u)
def bJ (l : List Int) (u : RS) : List (List Int) := wI (eG l) (mzX l) (kV l u) (kD 2 l u)
def MzI (l : List Int) (u : RS) (k : Nat) (w : RS) (o : List (List Int)) : Prop := ItI (eG l) (mzX l) (kV l u) (kD 2 l u) k w o
theorem MzI.zero (l : List Int) (u : RS) : MzI l u (kV l u) (kD 2 l u) [] := ItI.zero _ _ _ _
theorem MzI.step {l : List Int} {u : RS} {k : Nat} {w : RS} {o : List (List Int)} (h : MzI l u k w o) (hk : 0 < k) (hq : kT w = 0) : MzI l u (k - 1) (eG l w) (o ++ [cU l w]) := ItI.step h hk hq
theorem MzI.fin {l : List Int} {u : RS} {k : Nat} {w : RS} {o : List (List Int)} (h : MzI l u k w o) (hk : k = 0 ∨ ¬ kT w = 0) : vO l u = w ∧ bJ l u = o := ItI.fin h hk
theorem k0w {m : Nat} {l : List Int} {u : RS} (hm : l.length = m) (hu : kL u ≤ m) : kL (vO l u) ≤ m := hX (fun _ h => k37 hm h) _ _ (uW hm hu)
theorem wC {l : List Int} (hy : Byt l) (u : RS) : ka1 (bJ l u) ≤ 65535 := by
  obtain ⟨c, h1, h2⟩ := dO (f := eG l) (v := mzX l) (s := 1) (fun _ => rfl) (kV l u) (kD 2 l u)
  have h3 := yE hy u
  have h4 : ka1 (bJ l u) = c * 1 := h2
  omega
theorem k6i {l : List Int} (hy : Byt l) (u : RS) : MsW (bJ l u) := mJ (p := fun x => ka1 x ≤ 1000000) (fun w x hx => by
  rw [List.mem_singleton.1 hx]; have := wQ hy w; omega) _ _
def dbX (l : List Int) (w : RS) : List Bx := [bW ((kV l w : Nat) : Int) (dD l (kD 2 l w)) (aE l (kD 2 l w)) (bJ l (uU l (kD 2 l w))) (dD l (vO l (uU l (kD 2 l w)))) (aE l (vO l (uU l (kD 2 l w))))]
def dbF (l : List Int) (w : RS) : RS := uU l (vO l (uU l (kD 2 l w)))
def j0 (l : List Int) (u : RS) : RS := mK (dbF l) (kV l u) (kD 2 l u)
def yX (l : List Int) (u : RS) : List Bx := wI (dbF l) (dbX l) (kV l u) (kD 2 l u)
def DbI (l : List Int) (u : RS) (k : Nat) (w : RS) (o : List Bx) : Prop := ItI (dbF l) (dbX l) (kV l u) (kD 2 l u) k w o
theorem DbI.zero (l : List Int) (u : RS) : DbI l u (kV l u) (kD 2 l u) [] := ItI.zero _ _ _ _
theorem DbI.step {l : List Int} {u : RS} {k : Nat} {w : RS} {o : List Bx} (h : DbI l u k w o) (hk : 0 < k) (hq : kT w = 0) : DbI l u (k - 1) (uU l (vO l (uU l (kD 2 l w)))) (o ++ [bW ((kV l w : Nat) : Int) (dD l (kD 2 l w)) (aE l (kD 2 l w)) (bJ l (uU l (kD 2 l w))) (dD l (vO l (uU l (kD 2 l w)))) (aE l (vO l (uU l (kD 2 l w))))]) := ItI.step h hk hq
theorem DbI.fin {l : List Int} {u : RS} {k : Nat} {w : RS} {o : List Bx} (h : DbI l u k w o) (hk : k = 0 ∨ ¬ kT w = 0) : j0 l u = w ∧ yX l u = o := ItI.fin h hk
theorem k39 {m : Nat} {l : List Int} {u : RS} (hm : l.length = m) (hu : kL u ≤ m) : kL (j0 l u) ≤ m := hX (fun _ h => lZ hm (k0w hm (lZ hm (uW hm h)))) _ _ (uW hm hu)
theorem m9 {l : List Int} (hy : Byt l) (u : RS) : ka1 (yX l u) ≤ 65535 := by
  obtain ⟨c, h1, h2⟩ := dO (f := dbF l) (v := dbX l) (s := 1) (fun _ => rfl) (kV l u) (kD 2 l u)
  have h3 := yE hy u
  have h4 : ka1 (yX l u) = c * 1 := h2
  omega
theorem u24 {l : List Int} (hy : Byt l) (w : RS) : BsW (dbX l w) := by
  refine BsW.one ?_
  have h1 := b9 hy (kD 2 l w); have h2 := b9 hy (vO l (uU l (kD 2 l w))); have h3 := wC hy (uU l (kD 2 l w))
  exact ⟨h1.1, h2.1, ke9 h1.2 (by omega), ke9 h2.2 (by omega), ke9 h3 (by omega), k6i hy _⟩
theorem k38 {l : List Int} (hy : Byt l) (u : RS) : BsW (yX l u) := mJ (p := BxW) (fun w => u24 hy w) _ _
attribute [local irreducible] uU dD aE eG cU vO bJ j0 yX kD kV yA
theorem uJ {p : Prop} (h : p := by first | omega | with_reducible assumption | (simp only [kR, kQ, pbL_len, ka4, kb3, kb5, kb1, kb2, kb4, kc3] <;> omega) | rfl | assumption) : p := h
theorem yQ {p : Prop} (h : p := by first | omega | (simp only [kR, kQ, pbL_len, qL, ka4, kb3, kb5, kb1, kb2, kb4, kc3, kd0, kc7, kc4] <;> omega) | rfl) : p := h
theorem lD {p : Prop} (h : p := by first | omega | (simp only [kR, kQ, pbL_len, ka4, kb3, kb5] <;> omega)) : p := h
theorem lC {p : Prop} (h : p := by first | rfl | omega | assumption | (simp; done) | (simp; omega)) : p := h
theorem lE {p : Prop} (h : p := by rw [kc9, kc1 (by first | omega | (simp only [kR, kQ, pbL_len, qL, ka4, kb3, kb5, kb1, kb2, kb4, kc3, kd0, kc7, kc4] <;> omega))]) : p := h
abbrev a8 (l : List Int) (m : Nat) (w : RS) : BC := .ds [D.sl (dI .u8 l) m, iD (((kL w) : Nat) : Int), iD (kT w)]
theorem k7g (l : List Int) (m : Nat) (u : RS) (hm : ka1 l = m) (hb : m ≤ 1000000) (hy : Byt l) (hu : kL u ≤ m) : Fun 57 [.c (.ptr 0 0)] (kG [(0, some (59, .ds [D.sl (dI .u8 l) m, iD (((kL u) : Nat) : Int), iD (kT u)]))]) 1 (.e (.agg [.d (D.sl (dI .i64 (dD l u)) (aE l u))])) (kG [(0, some (59, .ds [D.sl (dI .u8 l) m, iD (((kL (uU l u)) : Nat) : Int), iD (kT (uU l u))]))]) 1 := by
  refine Fun.mk (n := 31) Try.func57 rfl rfl (ka5 rfl) ?_
  intro cx hcx
  refine kK [.no] True [(0, rV 0 0), (2, rV 1 0)] [(0, some (59, .ds [db l m, uD (kL u), iD (kT u)])), (1, some (75, .ds [qI]))] 2 trivial ?_
  refine kK [.no] True [(0, rV 0 0), (2, rV 1 0), (3, rV 2 0)] [(0, some (59, .ds [db l m, uD (kL u), iD (kT u)])), (1, some (75, .ds [qI])), (2, some (75, .ds [qI]))] 3 trivial ?_
  refine AW.seq ?_
  have hx1 : ((kL (kD 2 l u)) ≤ m) := (uW (zo) (uJ))
  have hx2 : ((kV l u) ≤ 65535) := (yE (kS : Byt l) u)
  refine kK [.no, .call [0] (uV (kV l u)) [(0, some (59, .ds [db l m, uD (kL (kD 2 l u)), iD (kT (kD 2 l u))]))] 1 [] none, .no] _ [(0, rV 0 0), (2, rV 1 0), (3, rV 2 0), (4, uV (kV l u))] [(0, some (59, .ds [db l m, uD (kL (kD 2 l u)), iD (kT (kD 2 l u))])), (1, some (75, .ds [qI])), (2, some (75, .ds [qI]))] 3 (vC l m u zo zo (kS : Byt l) uJ) ?_
  refine AW.block ?_
  refine j8 2 0 2 96 (cs' := [.own 3 0 0 2 true]) rfl rfl rfl ?_
  refine kW 1 hcx (fun (x : {x : Nat × Nat × RS × List Int // match x with | (k, i, w, o) => (SeI l u k w o) ∧ (ka1 o = i * 2 ∧ i + k ≤ 65535) ∧ (kL w ≤ m)}) => match x with | ⟨(k, i, w, o), _⟩ => (⟨[(0, rV 0 0), (2, rV 1 0), (3, rV 2 0), (4, uV k)], [(0, some (59, (a8 l m w))), (1, some (75, .ds [qI])), (2, some (75, .cs [.own 4 0 i 2 true])), (4, some (96, .ds (dI .i64 o)))], 5⟩ : ES)) (fun x => match x with | ⟨(k, i, w, o), _⟩ => k) ⟨(((kV l u) : Nat), (0 : Nat), ((kD 2 l u) : RS), (([] : List Int) : List Int)), ⟨(SeI.zero l u), ⟨rfl, by omega⟩, zo⟩⟩ [(4, 3)] (P := (kM 0) ∧ (kM 0) ∧ (kM 0) ∧ (kN (kV l u : Int)) ∧ (k9 [db l m, uD (kL (kD 2 l u)), iD (kT (kD 2 l u))]) ∧ (k9 [qI]) ∧ (kM 0) ∧ (kM 0) ∧ (((dI .i64 ([] : List Int)) : List D) = ([] : List D))) zk ⟨rfl, rfl, rfl, rfl, rfl, rfl, rfl, rfl, (by first | rfl | with_reducible assumption)⟩ ?_
  rintro ⟨⟨k, i, w, o⟩, hinv0⟩
  obtain ⟨hI, ho, hw⟩ : (SeI l u k w o) ∧ (ka1 o = i * 2 ∧ i + k ≤ 65535) ∧ (kL w ≤ m) := hinv0
  refine uI (l := [(0, rV 0 0), (2, rV 1 0), (3, rV 2 0), (4, uV k)]) (g := [(0, some (59, (a8 l m w))), (1, some (75, .ds [qI])), (2, some (75, .cs [.own 4 0 i 2 true])), (4, some (96, .ds (dI .i64 o)))]) (nx := 5) rfl rfl rfl ?_
  refine AW.seq ?_
  by_cases hx3 : ((0 : Int) < ((k : Nat) : Int))
  · by_cases hx4 : ((kT w) = 0)
    · refine zr (.no :: .b true :: kU 5 [.b true, .no]) [0, 2, 3, 4, 16] [0, 1, 2, 4] ((((0 : Int) < (k : Int))) ∧ (((kT w) = 0))) [(0, rV 0 0), (2, rV 1 0), (3, rV 2 0), (4, uV k), (16, bV true)] [(0, some (59, (a8 l m w))), (1, some (75, .ds [qI])), (2, some (75, .cs [.own 4 0 i 2 true])), (4, some (96, .ds (dI .i64 o)))] 5 ⟨zo, zo⟩ ?_
      refine vD ?_
      refine AW.seq ?_
      refine AW.block ?_
      have hx5 : ((kL (kD 4 l w)) ≤ m) := (uW (zo) (uJ))
      have hx6 : (((0 : Int) ≤ (yA l w)) ∧ ((yA l w) ≤ 4294967295)) := (lN (kS : Byt l) w)
      refine kK [.no, .call [0] (iV (yA l w)) [(0, some (59, .ds [db l m, uD (kL (kD 4 l w)), iD (kT (kD 4 l w))]))] 1 [] none, .no] _ [(0, rV 0 0), (2, rV 1 0), (3, rV 2 0), (4, uV k), (5, iV (yA l w))] [(0, some (59, .ds [db l m, uD (kL (kD 4 l w)), iD (kT (kD 4 l w))])), (1, some (75, .ds [qI])), (2, some (75, .cs [.own 4 0 i 2 true])), (4, some (96, .ds (dI .i64 o)))] 5 (nJ l m w zo zo (kS : Byt l) uJ) ?_
      have hx7 : ((kL (kD 4 l (kD 4 l w))) ≤ m) := (uW (zo) (uJ))
      have hx8 : (((0 : Int) ≤ (yA l (kD 4 l w))) ∧ ((yA l (kD 4 l w)) ≤ 4294967295)) := (lN (kS : Byt l) (kD 4 l w))
      refine aX (kU 4 [.call [0] (iV (yA l (kD 4 l w))) [(0, some (59, .ds [db l m, uD (kL (kD 4 l (kD 4 l w))), iD (kT (kD 4 l (kD 4 l w)))]))] 1 [] none, .no, .no, .ap none (i + 1) (dI .i64 (o ++ ([(yA l w), (yA l (kD 4 l w))] : List Int))), .no, .no]) ((_) ∧ ([iD (yA l w), iD (yA l (kD 4 l w))].length = 1 * 2) ∧ (((dI .i64 o) : List D).length = i * 2) ∧ ((i + 1) * 16 ≤ 140737488355328) ∧ (i + 1 = (i + 1)) ∧ (((dI .i64 o) : List D) ++ [iD (yA l w), iD (yA l (kD 4 l w))] = (dI .i64 (o ++ ([(yA l w), (yA l (kD 4 l w))] : List Int))))) [(0, rV 0 0), (2, rV 1 0), (3, rV 2 0), (4, uV k)] [(0, some (59, .ds [db l m, uD (kL (kD 4 l (kD 4 l w))), iD (kT (kD 4 l (kD 4 l w)))])), (1, some (75, .ds [qI])), (2, some (75, .cs [.own 6 0 (i + 1) 2 true])), (6, some (96, .ds (dI .i64 (o ++ ([(yA l w), (yA l (kD 4 l w))] : List Int)))))] 7 ⟨(nJ l m (kD 4 l w) zo zo (kS : Byt l) uJ), yQ, yQ, zo, zo, (qK .i64 o ([(yA l w), (yA l (kD 4 l w))] : List Int))⟩ ?_
      refine yH [.no, .w, .no] (qM ((k : Int) - 1)) [(0, rV 0 0), (2, rV 1 0), (3, rV 2 0), (4, iV (↑k - 1))] ⟨by omega, by omega⟩ ?_
      exact qS ⟨(((k - 1) : Nat), ((i + 1) : Nat), ((kD 4 l (kD 4 l w)) : RS), ((o ++ ([(yA l w), (yA l (kD 4 l w))] : List Int)) : List Int)), ⟨(hI.step zo zo), lD, zo⟩⟩ [(4, 6)] (P := (kM 0) ∧ (kM 0) ∧ (kM 0) ∧ (((((k - 1) : Nat) : Int) : Int) = ((k : Int) - 1)) ∧ (k9 [db l m, uD (kL (kD 4 l (kD 4 l w))), iD (kT (kD 4 l (kD 4 l w)))]) ∧ (k9 [qI]) ∧ (kM 0) ∧ (kM (i + 1)) ∧ (k9 (dI .i64 (o ++ ([(yA l w), (yA l (kD 4 l w))] : List Int))))) zk ⟨rfl, rfl, rfl, lC, rfl, rfl, rfl, rfl, rfl⟩ (show (k - 1) < k from (by first | omega | (show _ < _; simp; omega)))
    · refine zr (.no :: .b true :: kU 5 [.b false, .no]) [0, 2, 3, 4, 16] [0, 1, 2, 4] ((((0 : Int) < (k : Int))) ∧ (¬ ((kT w) = 0))) [(0, rV 0 0), (2, rV 1 0), (3, rV 2 0), (4, uV k), (16, bV false)] [(0, some (59, (a8 l m w))), (1, some (75, .ds [qI])), (2, some (75, .cs [.own 4 0 i 2 true])), (4, some (96, .ds (dI .i64 o)))] 5 ⟨zo, zo⟩ ?_
      refine zf ?_
      refine AW.exit ?_
      refine kK [.no, .no] True [(2, rV 1 0)] [(0, some (59, (a8 l m w))), (1, some (75, .cs [.own 4 0 i 2 true])), (4, some (96, .ds (dI .i64 o)))] 5 trivial ?_
      refine AW.freeze 4 (l' := [(2, rV 1 0)]) (g' := [(0, some (59, (a8 l m w))), (1, some (75, .ds [dl o i]))]) rfl (FzS.cons rfl (.same _) FzS.nil) (uO rfl rfl (FzG.to (bc := .cs [.own 4 0 i 2 true]) rfl (by rfl) (FzL.cons (@FzC.own 4 ((dI .i64 o) : List D) 0 i 2 true ((dI .i64 o) : List D) lE yQ) FzL.nil) FzG.nil)) ?_
      obtain ⟨hz1, hz2⟩ := SeI.fin hI zo
      have hz3 : aE l u = i := k45 hz2 (by omega)
      refine AW.ret ?_
      exact kC (.inr rfl) [] (P := (((dI .i64 (dD l u)) : List D) = (dI .i64 o)) ∧ (((aE l u) : Nat) = i) ∧ (([db l m, uD (kL (uU l u)), iD (kT (uU l u))] : List D) = [db l m, uD (kL w), iD (kT w)])) zk ⟨(by first | rfl | exact hz3 | (rw [hz1]; done) | (rw [hz2]; done) | (rw [hz2, hz3]; done) | omega | (rw [hz1]; rfl) | (rw [hz2, hz3]; rfl)), (by first | rfl | exact hz3 | (rw [hz1]; done) | (rw [hz2]; done) | (rw [hz2, hz3]; done) | omega | (rw [hz1]; rfl) | (rw [hz2, hz3]; rfl)), (by first | rfl | exact hz3 | (rw [hz1]; done) | (rw [hz2]; done) | (rw [hz2, hz3]; done) | omega | (rw [hz1]; rfl) | (rw [hz2, hz3]; rfl))⟩
  · refine zr [.no, .b false, .no, .no] [0, 2, 3, 4, 16] [0, 1, 2, 4] (¬ ((0 : Int) < (k : Int))) [(0, rV 0 0), (2, rV 1 0), (3, rV 2 0), (4, uV k), (16, bV false)] [(0, some (59, (a8 l m w))), (1, some (75, .ds [qI])), (2, some (75, .cs [.own 4 0 i 2 true])), (4, some (96, .ds (dI .i64 o)))] 5 zo ?_
    refine zf ?_
    refine AW.exit ?_
    refine kK [.no, .no] True [(2, rV 1 0)] [(0, some (59, (a8 l m w))), (1, some (75, .cs [.own 4 0 i 2 true])), (4, some (96, .ds (dI .i64 o)))] 5 trivial ?_
    refine AW.freeze 4 (l' := [(2, rV 1 0)]) (g' := [(0, some (59, (a8 l m w))), (1, some (75, .ds [dl o i]))]) rfl (FzS.cons rfl (.same _) FzS.nil) (uO rfl rfl (FzG.to (bc := .cs [.own 4 0 i 2 true]) rfl (by rfl) (FzL.cons (@FzC.own 4 ((dI .i64 o) : List D) 0 i 2 true ((dI .i64 o) : List D) lE yQ) FzL.nil) FzG.nil)) ?_
    obtain ⟨hz1, hz2⟩ := SeI.fin hI zo
    have hz3 : aE l u = i := k45 hz2 (by omega)
    refine AW.ret ?_
    exact kC (.inr rfl) [] (P := (((dI .i64 (dD l u)) : List D) = (dI .i64 o)) ∧ (((aE l u) : Nat) = i) ∧ (([db l m, uD (kL (uU l u)), iD (kT (uU l u))] : List D) = [db l m, uD (kL w), iD (kT w)])) zk ⟨(by first | rfl | exact hz3 | (rw [hz1]; done) | (rw [hz2]; done) | (rw [hz2, hz3]; done) | omega | (rw [hz1]; rfl) | (rw [hz2, hz3]; rfl)), (by first | rfl | exact hz3 | (rw [hz1]; done) | (rw [hz2]; done) | (rw [hz2, hz3]; done) | omega | (rw [hz1]; rfl) | (rw [hz2, hz3]; rfl)), (by first | rfl | exact hz3 | (rw [hz1]; done) | (rw [hz2]; done) | (rw [hz2, hz3]; done) | omega | (rw [hz1]; rfl) | (rw [hz2, hz3]; rfl))⟩
theorem lF {p : Prop} (h : p := by rw [kc9, kc4, kc1 (by first | omega | (simp only [kR, kQ, pbL_len, qL, ka4, kb3, kb5, kb1, kb2, kb4, kc3, kd0, kc7, kc4] <;> omega))]) : p := h
abbrev a7 (l : List Int) (m : Nat) (w : RS) : BC := .ds [D.sl (dI .u8 l) m, iD (((kL w) : Nat) : Int), iD (kT w)]
theorem k9o (l : List Int) (m : Nat) (u : RS) (hm : ka1 l = m) (hb : m ≤ 1000000) (hy : Byt l) (hu : kL u ≤ m) : Fun 70 [.c (.ptr 0 0)] (kG [(0, some (59, .ds [D.sl (dI .u8 l) m, iD (((kL u) : Nat) : Int), iD (kT u)]))]) 1 (sV .i64 (cU l u) (ka1 (cU l u))) (kG [(0, some (59, .ds [D.sl (dI .u8 l) m, iD (((kL (eG l u)) : Nat) : Int), iD (kT (eG l u))]))]) 1 := by
  refine Fun.mk (n := 24) Try.func70 rfl rfl (ka5 rfl) ?_
  intro cx hcx
  refine kK [.no] True [(0, rV 0 0)] [(0, some (59, .ds [db l m, uD (kL u), iD (kT u)]))] 1 trivial ?_
  refine kX [.no] True [(0, rV 0 0), (3, nV)] trivial ?_
  refine AW.seq ?_
  have hx1 : ((kL (kD 2 l u)) ≤ m) := (uW (zo) (uJ))
  have hx2 : ((kV l u) ≤ 65535) := (yE (kS : Byt l) u)
  refine kK [.no, .call [0] (uV (kV l u)) [(0, some (59, .ds [db l m, uD (kL (kD 2 l u)), iD (kT (kD 2 l u))]))] 1 [] none, .no] _ [(0, rV 0 0), (3, nV), (4, uV (kV l u))] [(0, some (59, .ds [db l m, uD (kL (kD 2 l u)), iD (kT (kD 2 l u))]))] 1 (vC l m u zo zo (kS : Byt l) uJ) ?_
  refine AW.block ?_
  refine AW.adoptS 3 1 3 rfl ?_
  refine kW 1 hcx (fun (x : {x : Nat × Nat × RS × List Int // match x with | (k, i, w, o) => (DcI l u k w o) ∧ (ka1 o = i * 1 ∧ i + k ≤ 65535) ∧ (kL w ≤ m)}) => match x with | ⟨(k, i, w, o), _⟩ => (⟨[(0, rV 0 0), (3, oV 2 0 i 1), (4, uV k)], [(0, some (59, (a7 l m w))), (2, some (3, .ds (dI .i64 o)))], 3⟩ : ES)) (fun x => match x with | ⟨(k, i, w, o), _⟩ => k) ⟨(((kV l u) : Nat), (0 : Nat), ((kD 2 l u) : RS), (([] : List Int) : List Int)), ⟨(DcI.zero l u), ⟨rfl, by omega⟩, zo⟩⟩ [(2, 1)] (P := (kM 0) ∧ (kM 0) ∧ (kM 0) ∧ (kN (kV l u : Int)) ∧ (k9 [db l m, uD (kL (kD 2 l u)), iD (kT (kD 2 l u))]) ∧ (((dI .i64 ([] : List Int)) : List D) = ([] : List D))) zk ⟨rfl, rfl, rfl, rfl, rfl, (by first | rfl | with_reducible assumption)⟩ ?_
  rintro ⟨⟨k, i, w, o⟩, hinv0⟩
  obtain ⟨hI, ho, hw⟩ : (DcI l u k w o) ∧ (ka1 o = i * 1 ∧ i + k ≤ 65535) ∧ (kL w ≤ m) := hinv0
  refine uI (l := [(0, rV 0 0), (3, oV 2 0 i 1), (4, uV k)]) (g := [(0, some (59, (a7 l m w))), (2, some (3, .ds (dI .i64 o)))]) (nx := 3) rfl rfl rfl ?_
  refine AW.seq ?_
  by_cases hx3 : ((0 : Int) < ((k : Nat) : Int))
  · by_cases hx4 : ((kT w) = 0)
    · refine zr (.no :: .b true :: kU 5 [.b true, .no]) [0, 3, 4, 15] [0, 2] ((((0 : Int) < (k : Int))) ∧ (((kT w) = 0))) [(0, rV 0 0), (3, oV 2 0 i 1), (4, uV k), (15, bV true)] [(0, some (59, (a7 l m w))), (2, some (3, .ds (dI .i64 o)))] 3 ⟨zo, zo⟩ ?_
      refine vD ?_
      refine AW.seq ?_
      refine AW.block ?_
      have hx5 : ((kL (kD 2 l w)) ≤ m) := (uW (zo) (uJ))
      have hx6 : ((kV l w) ≤ 65535) := (yE (kS : Byt l) w)
      refine aX [.no, .no, .call [0] (uV (kV l w)) [(0, some (59, .ds [db l m, uD (kL (kD 2 l w)), iD (kT (kD 2 l w))]))] 1 [] none, .no, .ap none (i + 1) (dI .i64 (o ++ ([(kV l w : Int)] : List Int))), .no] ((_) ∧ ([uD (kV l w)].length = 1 * 1) ∧ (((dI .i64 o) : List D).length = i * 1) ∧ ((i + 1) * 8 ≤ 140737488355328) ∧ (i + 1 = (i + 1)) ∧ (((dI .i64 o) : List D) ++ [uD (kV l w)] = (dI .i64 (o ++ ([(kV l w : Int)] : List Int))))) [(0, rV 0 0), (3, oV 4 0 (i + 1) 1), (4, uV k)] [(0, some (59, .ds [db l m, uD (kL (kD 2 l w)), iD (kT (kD 2 l w))])), (4, some (3, .ds (dI .i64 (o ++ ([(kV l w : Int)] : List Int)))))] 5 ⟨(vC l m w zo zo (kS : Byt l) uJ), yQ, yQ, zo, zo, (qK .i64 o ([(kV l w : Int)] : List Int))⟩ ?_
      refine yH [.no, .w, .no] (qM ((k : Int) - 1)) [(0, rV 0 0), (3, oV 4 0 (i + 1) 1), (4, iV (↑k - 1))] ⟨by omega, by omega⟩ ?_
      exact qS ⟨(((k - 1) : Nat), ((i + 1) : Nat), ((kD 2 l w) : RS), ((o ++ ([(kV l w : Int)] : List Int)) : List Int)), ⟨(hI.step zo zo), lD, zo⟩⟩ [(2, 4)] (P := (kM 0) ∧ (kM 0) ∧ (kM (i + 1)) ∧ (((((k - 1) : Nat) : Int) : Int) = ((k : Int) - 1)) ∧ (k9 [db l m, uD (kL (kD 2 l w)), iD (kT (kD 2 l w))]) ∧ (k9 (dI .i64 (o ++ ([(kV l w : Int)] : List Int))))) zk ⟨rfl, rfl, rfl, lC, rfl, rfl⟩ (show (k - 1) < k from (by first | omega | (show _ < _; simp; omega)))
    · refine zr (.no :: .b true :: kU 5 [.b false, .no]) [0, 3, 4, 15] [0, 2] ((((0 : Int) < (k : Int))) ∧ (¬ ((kT w) = 0))) [(0, rV 0 0), (3, oV 2 0 i 1), (4, uV k), (15, bV false)] [(0, some (59, (a7 l m w))), (2, some (3, .ds (dI .i64 o)))] 3 ⟨zo, zo⟩ ?_
      refine zf ?_
      refine AW.exit ?_
      refine kK [.no, .no] True [(2, oV 2 0 i 1)] [(0, some (59, (a7 l m w))), (2, some (3, .ds (dI .i64 o)))] 3 trivial ?_
      refine AW.freeze 2 (l' := [(2, sV .i64 o i)]) (g' := [(0, some (59, (a7 l m w)))]) rfl (FzS.cons rfl (.e (.c (@FzC.own 2 ((dI .i64 o) : List D) 0 i 1 true ((dI .i64 o) : List D) lF yQ))) FzS.nil) (uO rfl rfl FzG.nil) ?_
      obtain ⟨hz1, hz2⟩ := DcI.fin hI zo
      have hz3 : ka1 (cU l u) = i := by rw [hz2]; omega
      refine AW.ret ?_
      exact kC (.inr rfl) [] (P := (((dI .i64 (cU l u)) : List D) = (dI .i64 o)) ∧ (((ka1 (cU l u)) : Nat) = i) ∧ (([db l m, uD (kL (eG l u)), iD (kT (eG l u))] : List D) = [db l m, uD (kL w), iD (kT w)])) zk ⟨(by first | rfl | exact hz3 | (rw [hz1]; done) | (rw [hz2]; done) | (rw [hz2, hz3]; done) | omega | (rw [hz1]; rfl) | (rw [hz2, hz3]; rfl)), (by first | rfl | exact hz3 | (rw [hz1]; done) | (rw [hz2]; done) | (rw [hz2, hz3]; done) | omega | (rw [hz1]; rfl) | (rw [hz2, hz3]; rfl)), (by first | rfl | exact hz3 | (rw [hz1]; done) | (rw [hz2]; done) | (rw [hz2, hz3]; done) | omega | (rw [hz1]; rfl) | (rw [hz2, hz3]; rfl))⟩
  · refine zr [.no, .b false, .no, .no] [0, 3, 4, 15] [0, 2] (¬ ((0 : Int) < (k : Int))) [(0, rV 0 0), (3, oV 2 0 i 1), (4, uV k), (15, bV false)] [(0, some (59, (a7 l m w))), (2, some (3, .ds (dI .i64 o)))] 3 zo ?_
    refine zf ?_
    refine AW.exit ?_
    refine kK [.no, .no] True [(2, oV 2 0 i 1)] [(0, some (59, (a7 l m w))), (2, some (3, .ds (dI .i64 o)))] 3 trivial ?_
    refine AW.freeze 2 (l' := [(2, sV .i64 o i)]) (g' := [(0, some (59, (a7 l m w)))]) rfl (FzS.cons rfl (.e (.c (@FzC.own 2 ((dI .i64 o) : List D) 0 i 1 true ((dI .i64 o) : List D) lF yQ))) FzS.nil) (uO rfl rfl FzG.nil) ?_
    obtain ⟨hz1, hz2⟩ := DcI.fin hI zo
    have hz3 : ka1 (cU l u) = i := by rw [hz2]; omega
    refine AW.ret ?_
    exact kC (.inr rfl) [] (P := (((dI .i64 (cU l u)) : List D) = (dI .i64 o)) ∧ (((ka1 (cU l u)) : Nat) = i) ∧ (([db l m, uD (kL (eG l u)), iD (kT (eG l u))] : List D) = [db l m, uD (kL w), iD (kT w)])) zk ⟨(by first | rfl | exact hz3 | (rw [hz1]; done) | (rw [hz2]; done) | (rw [hz2, hz3]; done) | omega | (rw [hz1]; rfl) | (rw [hz2, hz3]; rfl)), (by first | rfl | exact hz3 | (rw [hz1]; done) | (rw [hz2]; done) | (rw [hz2, hz3]; done) | omega | (rw [hz1]; rfl) | (rw [hz2, hz3]; rfl)), (by first | rfl | exact hz3 | (rw [hz1]; done) | (rw [hz2]; done) | (rw [hz2, hz3]; done) | omega | (rw [hz1]; rfl) | (rw [hz2, hz3]; rfl))⟩
abbrev a6 (l : List Int) (m : Nat) (w : RS) : BC := .ds [D.sl (dI .u8 l) m, iD (((kL w) : Nat) : Int), iD (kT w)]
theorem k9l (l : List Int) (m : Nat) (u : RS) (hm : ka1 l = m) (hb : m ≤ 1000000) (hy : Byt l) (hu : kL u ≤ m) : Fun 58 [.c (.ptr 0 0)] (kG [(0, some (59, .ds [D.sl (dI .u8 l) m, iD (((kL u) : Nat) : Int), iD (kT u)]))]) 1 (qX (qA (bJ l u)) (ka1 (bJ l u))) (kG [(0, some (59, .ds [D.sl (dI .u8 l) m, iD (((kL (vO l u)) : Nat) : Int), iD (kT (vO l u))]))]) 1 := by
  refine Fun.mk (n := 24) Try.func58 rfl rfl (ka5 rfl) ?_
  intro cx hcx
  refine kK [.no] True [(0, rV 0 0)] [(0, some (59, .ds [db l m, uD (kL u), iD (kT u)]))] 1 trivial ?_
  refine kX [.no] True [(0, rV 0 0), (3, nV)] trivial ?_
  refine AW.seq ?_
  have hx1 : ((kL (kD 2 l u)) ≤ m) := (uW (zo) (uJ))
  have hx2 : ((kV l u) ≤ 65535) := (yE (kS : Byt l) u)
  refine kK [.no, .call [0] (uV (kV l u)) [(0, some (59, .ds [db l m, uD (kL (kD 2 l u)), iD (kT (kD 2 l u))]))] 1 [] none, .no] _ [(0, rV 0 0), (3, nV), (4, uV (kV l u))] [(0, some (59, .ds [db l m, uD (kL (kD 2 l u)), iD (kT (kD 2 l u))]))] 1 (vC l m u zo zo (kS : Byt l) uJ) ?_
  refine AW.block ?_
  refine AW.adoptS 3 1 63 rfl ?_
  refine kW 1 hcx (fun (x : {x : Nat × Nat × RS × List (List Int) // match x with | (k, i, w, o) => (MzI l u k w o) ∧ (ka1 o = i * 1 ∧ i + k ≤ 65535) ∧ (kL w ≤ m)}) => match x with | ⟨(k, i, w, o), _⟩ => (⟨[(0, rV 0 0), (3, oV 2 0 i 1), (4, uV k)], [(0, some (59, (a6 l m w))), (2, some (63, .ds (qA o)))], 3⟩ : ES)) (fun x => match x with | ⟨(k, i, w, o), _⟩ => k) ⟨(((kV l u) : Nat), (0 : Nat), ((kD 2 l u) : RS), (([] : List (List Int)) : List (List Int))), ⟨(MzI.zero l u), ⟨rfl, by omega⟩, zo⟩⟩ [(2, 1)] (P := (kM 0) ∧ (kM 0) ∧ (kM 0) ∧ (kN (kV l u : Int)) ∧ (k9 [db l m, uD (kL (kD 2 l u)), iD (kT (kD 2 l u))]) ∧ (((qA ([] : List (List Int))) : List D) = ([] : List D))) zk ⟨rfl, rfl, rfl, rfl, rfl, (by first | rfl | with_reducible assumption)⟩ ?_
  rintro ⟨⟨k, i, w, o⟩, hinv0⟩
  obtain ⟨hI, ho, hw⟩ : (MzI l u k w o) ∧ (ka1 o = i * 1 ∧ i + k ≤ 65535) ∧ (kL w ≤ m) := hinv0
  refine uI (l := [(0, rV 0 0), (3, oV 2 0 i 1), (4, uV k)]) (g := [(0, some (59, (a6 l m w))), (2, some (63, .ds (qA o)))]) (nx := 3) rfl rfl rfl ?_
  refine AW.seq ?_
  by_cases hx3 : ((0 : Int) < ((k : Nat) : Int))
  · by_cases hx4 : ((kT w) = 0)
    · refine zr (.no :: .b true :: kU 5 [.b true, .no]) [0, 3, 4, 15] [0, 2] ((((0 : Int) < (k : Int))) ∧ (((kT w) = 0))) [(0, rV 0 0), (3, oV 2 0 i 1), (4, uV k), (15, bV true)] [(0, some (59, (a6 l m w))), (2, some (63, .ds (qA o)))] 3 ⟨zo, zo⟩ ?_
      refine vD ?_
      refine AW.seq ?_
      refine AW.block ?_
      have hx5 : ((kL (eG l w)) ≤ m) := (k37 (zo) (uJ))
      have hx6 : ((ka1 (cU l w)) ≤ 65535) := (wQ (kS : Byt l) w)
      refine aX [.no, .no, .call [0] (sV .i64 (cU l w) (ka1 (cU l w))) [(0, some (59, .ds [db l m, uD (kL (eG l w)), iD (kT (eG l w))]))] 1 [] none, .no, .ap none (i + 1) (qA (o ++ ([(cU l w)] : List (List Int)))), .no] ((_) ∧ ([dl (cU l w) (ka1 (cU l w))].length = 1 * 1) ∧ (((qA o) : List D).length = i * 1) ∧ ((i + 1) * 24 ≤ 140737488355328) ∧ (i + 1 = (i + 1)) ∧ (((qA o) : List D) ++ [dl (cU l w) (ka1 (cU l w))] = (qA (o ++ ([(cU l w)] : List (List Int)))))) [(0, rV 0 0), (3, oV 4 0 (i + 1) 1), (4, uV k)] [(0, some (59, .ds [db l m, uD (kL (eG l w)), iD (kT (eG l w))])), (4, some (63, .ds (qA (o ++ ([(cU l w)] : List (List Int))))))] 5 ⟨(k9o l m w zo zo (kS : Byt l) uJ), yQ, yQ, zo, zo, (wD o (cU l w) (ka1 (cU l w)) (by first | rfl | omega))⟩ ?_
      refine yH [.no, .w, .no] (qM ((k : Int) - 1)) [(0, rV 0 0), (3, oV 4 0 (i + 1) 1), (4, iV (↑k - 1))] ⟨by omega, by omega⟩ ?_
      exact qS ⟨(((k - 1) : Nat), ((i + 1) : Nat), ((eG l w) : RS), ((o ++ ([(cU l w)] : List (List Int))) : List (List Int))), ⟨(hI.step zo zo), lD, zo⟩⟩ [(2, 4)] (P := (kM 0) ∧ (kM 0) ∧ (kM (i + 1)) ∧ (((((k - 1) : Nat) : Int) : Int) = ((k : Int) - 1)) ∧ (k9 [db l m, uD (kL (eG l w)), iD (kT (eG l w))]) ∧ (k9 (qA (o ++ ([(cU l w)] : List (List Int)))))) zk ⟨rfl, rfl, rfl, lC, rfl, rfl⟩ (show (k - 1) < k from (by first | omega | (show _ < _; simp; omega)))
    · refine zr (.no :: .b true :: kU 5 [.b false, .no]) [0, 3, 4, 15] [0, 2] ((((0 : Int) < (k : Int))) ∧ (¬ ((kT w) = 0))) [(0, rV 0 0), (3, oV 2 0 i 1), (4, uV k), (15, bV false)] [(0, some (59, (a6 l m w))), (2, some (63, .ds (qA o)))] 3 ⟨zo, zo⟩ ?_
      refine zf ?_
      refine AW.exit ?_
      refine kK [.no, .no] True [(2, oV 2 0 i 1)] [(0, some (59, (a6 l m w))), (2, some (63, .ds (qA o)))] 3 trivial ?_
      refine AW.freeze 2 (l' := [(2, qX (qA o) i)]) (g' := [(0, some (59, (a6 l m w)))]) rfl (FzS.cons rfl (.e (.c (@FzC.own 2 ((qA o) : List D) 0 i 1 true ((qA o) : List D) lF yQ))) FzS.nil) (uO rfl rfl FzG.nil) ?_
      obtain ⟨hz1, hz2⟩ := MzI.fin hI zo
      have hz3 : ka1 (bJ l u) = i := by rw [hz2]; omega
      refine AW.ret ?_
      exact kC (.inr rfl) [] (P := (((qA (bJ l u)) : List D) = (qA o)) ∧ (((ka1 (bJ l u)) : Nat) = i) ∧ (([db l m, uD (kL (vO l u)), iD (kT (vO l u))] : List D) = [db l m, uD (kL w), iD (kT w)])) zk ⟨(by first | rfl | exact hz3 | (rw [hz1]; done) | (rw [hz2]; done) | (rw [hz2, hz3]; done) | omega | (rw [hz1]; rfl) | (rw [hz2, hz3]; rfl)), (by first | rfl | exact hz3 | (rw [hz1]; done) | (rw [hz2]; done) | (rw [hz2, hz3]; done) | omega | (rw [hz1]; rfl) | (rw [hz2, hz3]; rfl)), (by first | rfl | exact hz3 | (rw [hz1]; done) | (rw [hz2]; done) | (rw [hz2, hz3]; done) | omega | (rw [hz1]; rfl) | (rw [hz2, hz3]; rfl))⟩
  · refine zr [.no, .b false, .no, .no] [0, 3, 4, 15] [0, 2] (¬ ((0 : Int) < (k : Int))) [(0, rV 0 0), (3, oV 2 0 i 1), (4, uV k), (15, bV false)] [(0, some (59, (a6 l m w))), (2, some (63, .ds (qA o)))] 3 zo ?_
    refine zf ?_
    refine AW.exit ?_
    refine kK [.no, .no] True [(2, oV 2 0 i 1)] [(0, some (59, (a6 l m w))), (2, some (63, .ds (qA o)))] 3 trivial ?_
    refine AW.freeze 2 (l' := [(2, qX (qA o) i)]) (g' := [(0, some (59, (a6 l m w)))]) rfl (FzS.cons rfl (.e (.c (@FzC.own 2 ((qA o) : List D) 0 i 1 true ((qA o) : List D) lF yQ))) FzS.nil) (uO rfl rfl FzG.nil) ?_
    obtain ⟨hz1, hz2⟩ := MzI.fin hI zo
    have hz3 : ka1 (bJ l u) = i := by rw [hz2]; omega
    refine AW.ret ?_
    exact kC (.inr rfl) [] (P := (((qA (bJ l u)) : List D) = (qA o)) ∧ (((ka1 (bJ l u)) : Nat) = i) ∧ (([db l m, uD (kL (vO l u)), iD (kT (vO l u))] : List D) = [db l m, uD (kL w), iD (kT w)])) zk ⟨(by first | rfl | exact hz3 | (rw [hz1]; done) | (rw [hz2]; done) | (rw [hz2, hz3]; done) | omega | (rw [hz1]; rfl) | (rw [hz2, hz3]; rfl)), (by first | rfl | exact hz3 | (rw [hz1]; done) | (rw [hz2]; done) | (rw [hz2, hz3]; done) | omega | (rw [hz1]; rfl) | (rw [hz2, hz3]; rfl)), (by first | rfl | exact hz3 | (rw [hz1]; done) | (rw [hz2]; done) | (rw [hz2, hz3]; done) | omega | (rw [hz1]; rfl) | (rw [hz2, hz3]; rfl))⟩
abbrev vS (l : List Int) (w : RS) := dD l (vO l (uU l (kD 2 l w)))
abbrev a5 (l : List Int) (m : Nat) (w : RS) : BC := .ds [D.sl (dI .u8 l) m, iD (((kL w) : Nat) : Int), iD (kT w)]
abbrev rN (l : List Int) (m : Nat) (w : RS) : BC := .ds [D.sl (dI .u8 l) m, iD (((kL (uU l (vO l (uU l (kD 2 l w))))) : Nat) : Int), iD (kT (uU l (vO l (uU l (kD 2 l w)))))]
@[reducible] def q1M (x : List Bx) : E1 := (.c (.d (D.sl (qH x) (ka1 x))))
theorem k63 (l : List Int) (m : Nat) (u : RS) (hm : ka1 l = m) (hb : m ≤ 1000000) (hy : Byt l) (hu : kL u ≤ m) : Fun 42 [.c (.ptr 0 0)] (kG [(0, some (59, .ds [D.sl (dI .u8 l) m, iD (((kL u) : Nat) : Int), iD (kT u)]))]) 1 (.e (q1M (yX l u))) (kG [(0, some (59, .ds [D.sl (dI .u8 l) m, iD (((kL (j0 l u)) : Nat) : Int), iD (kT (j0 l u))]))]) 1 := by
  refine Fun.mk (n := 36) Try.func42 rfl rfl (ka5 rfl) ?_
  intro cx hcx
  refine kK [.no] True [(0, rV 0 0)] [(0, some (59, .ds [db l m, uD (kL u), iD (kT u)]))] 1 trivial ?_
  refine kX [.no] True [(0, rV 0 0), (3, nV)] trivial ?_
  refine AW.seq ?_
  have hx1 : ((kL (kD 2 l u)) ≤ m) := (uW (zo) (uJ))
  have hx2 : ((kV l u) ≤ 65535) := (yE (kS : Byt l) u)
  refine kK [.no, .call [0] (uV (kV l u)) [(0, some (59, .ds [db l m, uD (kL (kD 2 l u)), iD (kT (kD 2 l u))]))] 1 [] none, .no] _ [(0, rV 0 0), (3, nV), (4, uV (kV l u))] [(0, some (59, .ds [db l m, uD (kL (kD 2 l u)), iD (kT (kD 2 l u))]))] 1 (vC l m u zo zo (kS : Byt l) uJ) ?_
  refine AW.block ?_
  refine AW.adoptS 3 4 78 rfl ?_
  refine kW 1 hcx (fun (x : {x : Nat × Nat × RS × List Bx // match x with | (k, i, w, o) => (DbI l u k w o) ∧ (ka1 o = i * 1 ∧ i + k ≤ 65535) ∧ (kL w ≤ m)}) => match x with | ⟨(k, i, w, o), _⟩ => (⟨[(0, rV 0 0), (3, oV 2 0 i 4), (4, uV k)], [(0, some (59, (a5 l m w))), (2, some (78, .ds (qH o)))], 3⟩ : ES)) (fun x => match x with | ⟨(k, i, w, o), _⟩ => k) ⟨(((kV l u) : Nat), (0 : Nat), ((kD 2 l u) : RS), (([] : List Bx) : List Bx)), ⟨(DbI.zero l u), ⟨rfl, by omega⟩, zo⟩⟩ [(2, 1)] (P := (kM 0) ∧ (kM 0) ∧ (kM 0) ∧ (kN (kV l u : Int)) ∧ (k9 [db l m, uD (kL (kD 2 l u)), iD (kT (kD 2 l u))]) ∧ (((qH ([] : List Bx)) : List D) = ([] : List D))) zk ⟨rfl, rfl, rfl, rfl, rfl, (by first | rfl | with_reducible assumption)⟩ ?_
  rintro ⟨⟨k, i, w, o⟩, hinv0⟩
  obtain ⟨hI, ho, hw⟩ : (DbI l u k w o) ∧ (ka1 o = i * 1 ∧ i + k ≤ 65535) ∧ (kL w ≤ m) := hinv0
  refine uI (l := [(0, rV 0 0), (3, oV 2 0 i 4), (4, uV k)]) (g := [(0, some (59, (a5 l m w))), (2, some (78, .ds (qH o)))]) (nx := 3) rfl rfl rfl ?_
  refine AW.seq ?_
  by_cases hx3 : ((0 : Int) < ((k : Nat) : Int))
  · by_cases hx4 : ((kT w) = 0)
    · refine zr (.no :: .b true :: kU 5 [.b true, .no]) [0, 3, 4, 16] [0, 2] ((((0 : Int) < (k : Int))) ∧ (((kT w) = 0))) [(0, rV 0 0), (3, oV 2 0 i 4), (4, uV k), (16, bV true)] [(0, some (59, (a5 l m w))), (2, some (78, .ds (qH o)))] 3 ⟨zo, zo⟩ ?_
      refine vD ?_
      refine AW.seq ?_
      refine AW.block ?_
      have hx5 : ((kL (kD 2 l w)) ≤ m) := (uW (zo) (uJ))
      have hx6 : ((kV l w) ≤ 65535) := (yE (kS : Byt l) w)
      refine kK [.no, .call [0] (uV (kV l w)) [(0, some (59, .ds [db l m, uD (kL (kD 2 l w)), iD (kT (kD 2 l w))]))] 1 [] none, .no, .no, .no] _ [(0, rV 0 0), (3, oV 2 0 i 4), (4, uV k), (5, rV 3 0)] [(0, some (59, .ds [db l m, uD (kL (kD 2 l w)), iD (kT (kD 2 l w))])), (2, some (78, .ds (qH o))), (3, some (78, .ds [uD (kV l w), qI, qI, qI]))] 4 (vC l m w zo zo (kS : Byt l) uJ) ?_
      have hx7 : ((kL (uU l (kD 2 l w))) ≤ m) := (lZ (zo) (uJ))
      have hx8 : ((ka1 (dD l (kD 2 l w))) = ((aE l (kD 2 l w)) * 2)) := (b9 (kS : Byt l) (kD 2 l w)).1
      have hx9 : ((aE l (kD 2 l w)) ≤ 65535) := (b9 (kS : Byt l) (kD 2 l w)).2
      refine kK [.no, .call [0] (.e (.agg [.d (dl (dD l (kD 2 l w)) (aE l (kD 2 l w)))])) [(0, some (59, .ds [db l m, uD (kL (uU l (kD 2 l w))), iD (kT (uU l (kD 2 l w)))]))] 1 [] none, .no, .no] _ [(0, rV 0 0), (3, oV 2 0 i 4), (4, uV k), (5, rV 3 0)] [(0, some (59, .ds [db l m, uD (kL (uU l (kD 2 l w))), iD (kT (uU l (kD 2 l w)))])), (2, some (78, .ds (qH o))), (3, some (78, .ds [uD (kV l w), dl (dD l (kD 2 l w)) (aE l (kD 2 l w)), qI, qI]))] 4 (k7g l m (kD 2 l w) zo zo (kS : Byt l) uJ) ?_
      have hx10 : ((kL (vO l (uU l (kD 2 l w)))) ≤ m) := (k0w (zo) (uJ))
      have hx11 : ((ka1 (bJ l (uU l (kD 2 l w)))) ≤ 65535) := (wC (kS : Byt l) (uU l (kD 2 l w)))
      have hx12 : (MsW (bJ l (uU l (kD 2 l w)))) := (k6i (kS : Byt l) (uU l (kD 2 l w)))
      refine kK [.no, .call [0] (qX (qA (bJ l (uU l (kD 2 l w)))) (ka1 (bJ l (uU l (kD 2 l w))))) [(0, some (59, .ds [db l m, iD (kL (vO l (uU l (kD 2 l w))) : Int), iD (kT (vO l (uU l (kD 2 l w))))]))] 1 [] none, .no, .no] _ [(0, rV 0 0), (3, oV 2 0 i 4), (4, uV k), (5, rV 3 0)] [(0, some (59, .ds [db l m, iD (kL (vO l (uU l (kD 2 l w))) : Int), iD (kT (vO l (uU l (kD 2 l w))))])), (2, some (78, .ds (qH o))), (3, some (78, .ds [uD (kV l w), dl (dD l (kD 2 l w)) (aE l (kD 2 l w)), D.sl (qA (bJ l (uU l (kD 2 l w)))) (ka1 (bJ l (uU l (kD 2 l w)))), qI]))] 4 (k9l l m (uU l (kD 2 l w)) zo zo (kS : Byt l) uJ) ?_
      have hx13 : ((kL (uU l (vO l (uU l (kD 2 l w))))) ≤ m) := (lZ (zo) (uJ))
      have hx14 : ((ka1 (vS l w)) = ((aE l (vO l (uU l (kD 2 l w)))) * 2)) := (b9 (kS : Byt l) (vO l (uU l (kD 2 l w)))).1
      have hx15 : ((aE l (vO l (uU l (kD 2 l w)))) ≤ 65535) := (b9 (kS : Byt l) (vO l (uU l (kD 2 l w)))).2
      refine kK [.no, .call [0] (.e (.agg [.d (dl (vS l w) (aE l (vO l (uU l (kD 2 l w)))))])) [(0, some (59, (rN l m w)))] 1 [] none, .no, .no] _ [(0, rV 0 0), (3, oV 2 0 i 4), (4, uV k), (5, rV 3 0)] [(0, some (59, (rN l m w))), (2, some (78, .ds (qH o))), (3, some (78, .ds [uD (kV l w), dl (dD l (kD 2 l w)) (aE l (kD 2 l w)), D.sl (qA (bJ l (uU l (kD 2 l w)))) (ka1 (bJ l (uU l (kD 2 l w)))), dl (vS l w) (aE l (vO l (uU l (kD 2 l w))))]))] 4 (k7g l m (vO l (uU l (kD 2 l w))) zo zo (kS : Byt l) uJ) ?_
      refine aX [.no, .no, .no, .ap none (i + 1) (qH (o ++ ([(bW (kV l w : Int) (dD l (kD 2 l w)) (aE l (kD 2 l w)) (bJ l (uU l (kD 2 l w))) (vS l w) (aE l (vO l (uU l (kD 2 l w)))))] : List Bx))), .no] (([uD (kV l w), dl (dD l (kD 2 l w)) (aE l (kD 2 l w)), D.sl (qA (bJ l (uU l (kD 2 l w)))) (ka1 (bJ l (uU l (kD 2 l w)))), dl (vS l w) (aE l (vO l (uU l (kD 2 l w))))].length = 1 * 4) ∧ (((qH o) : List D).length = i * 4) ∧ ((i + 1) * 80 ≤ 140737488355328) ∧ (i + 1 = (i + 1)) ∧ (((qH o) : List D) ++ [uD (kV l w), dl (dD l (kD 2 l w)) (aE l (kD 2 l w)), D.sl (qA (bJ l (uU l (kD 2 l w)))) (ka1 (bJ l (uU l (kD 2 l w)))), dl (vS l w) (aE l (vO l (uU l (kD 2 l w))))] = (qH (o ++ ([(bW (kV l w : Int) (dD l (kD 2 l w)) (aE l (kD 2 l w)) (bJ l (uU l (kD 2 l w))) (vS l w) (aE l (vO l (uU l (kD 2 l w)))))] : List Bx))))) [(0, rV 0 0), (3, oV 5 0 (i + 1) 4), (4, uV k)] [(0, some (59, (rN l m w))), (5, some (78, .ds (qH (o ++ ([(bW (kV l w : Int) (dD l (kD 2 l w)) (aE l (kD 2 l w)) (bJ l (uU l (kD 2 l w))) (vS l w) (aE l (vO l (uU l (kD 2 l w)))))] : List Bx)))))] 6 ⟨yQ, yQ, zo, zo, (wR o (kV l w : Int) (dD l (kD 2 l w)) (aE l (kD 2 l w)) (bJ l (uU l (kD 2 l w))) (ka1 (bJ l (uU l (kD 2 l w)))) (vS l w) (aE l (vO l (uU l (kD 2 l w)))) (by first | rfl | omega))⟩ ?_
      refine yH [.no, .w, .no] (qM ((k : Int) - 1)) [(0, rV 0 0), (3, oV 5 0 (i + 1) 4), (4, iV (↑k - 1))] ⟨by omega, by omega⟩ ?_
      exact qS ⟨(((k - 1) : Nat), ((i + 1) : Nat), ((uU l (vO l (uU l (kD 2 l w)))) : RS), ((o ++ ([(bW (kV l w : Int) (dD l (kD 2 l w)) (aE l (kD 2 l w)) (bJ l (uU l (kD 2 l w))) (vS l w) (aE l (vO l (uU l (kD 2 l w)))))] : List Bx)) : List Bx)), ⟨(hI.step zo zo), lD, zo⟩⟩ [(2, 5)] (P := (kM 0) ∧ (kM 0) ∧ (kM (i + 1)) ∧ (((((k - 1) : Nat) : Int) : Int) = ((k : Int) - 1)) ∧ (k9 [db l m, iD (((kL (uU l (vO l (uU l (kD 2 l w))))) : Nat) : Int), iD (kT (uU l (vO l (uU l (kD 2 l w)))))]) ∧ (k9 (qH (o ++ ([(bW (kV l w : Int) (dD l (kD 2 l w)) (aE l (kD 2 l w)) (bJ l (uU l (kD 2 l w))) (vS l w) (aE l (vO l (uU l (kD 2 l w)))))] : List Bx))))) zk ⟨rfl, rfl, rfl, lC, rfl, rfl⟩ (show (k - 1) < k from (by first | omega | (show _ < _; simp; omega)))
    · refine zr (.no :: .b true :: kU 5 [.b false, .no]) [0, 3, 4, 16] [0, 2] ((((0 : Int) < (k : Int))) ∧ (¬ ((kT w) = 0))) [(0, rV 0 0), (3, oV 2 0 i 4), (4, uV k), (16, bV false)] [(0, some (59, (a5 l m w))), (2, some (78, .ds (qH o)))] 3 ⟨zo, zo⟩ ?_
      refine zf ?_
      refine AW.exit ?_
      refine kK [.no, .no] True [(2, oV 2 0 i 4)] [(0, some (59, (a5 l m w))), (2, some (78, .ds (qH o)))] 3 trivial ?_
      refine AW.freeze 2 (l' := [(2, .e (eR o i))]) (g' := [(0, some (59, (a5 l m w)))]) rfl (FzS.cons rfl (.e (.c (@FzC.own 2 ((qH o) : List D) 0 i 4 true ((qH o) : List D) lE yQ))) FzS.nil) (uO rfl rfl FzG.nil) ?_
      obtain ⟨hz1, hz2⟩ := DbI.fin hI zo
      have hz3 : ka1 (yX l u) = i := by rw [hz2]; omega
      refine AW.ret ?_
      exact kC (.inr rfl) [] (P := (((qH (yX l u)) : List D) = (qH o)) ∧ (((ka1 (yX l u)) : Nat) = i) ∧ (([db l m, uD (kL (j0 l u)), iD (kT (j0 l u))] : List D) = [db l m, uD (kL w), iD (kT w)])) zk ⟨(by first | rfl | exact hz3 | (rw [hz1]; done) | (rw [hz2]; done) | (rw [hz2, hz3]; done) | omega | (rw [hz1]; rfl) | (rw [hz2, hz3]; rfl)), (by first | rfl | exact hz3 | (rw [hz1]; done) | (rw [hz2]; done) | (rw [hz2, hz3]; done) | omega | (rw [hz1]; rfl) | (rw [hz2, hz3]; rfl)), (by first | rfl | exact hz3 | (rw [hz1]; done) | (rw [hz2]; done) | (rw [hz2, hz3]; done) | omega | (rw [hz1]; rfl) | (rw [hz2, hz3]; rfl))⟩
  · refine zr [.no, .b false, .no, .no] [0, 3, 4, 16] [0, 2] (¬ ((0 : Int) < (k : Int))) [(0, rV 0 0), (3, oV 2 0 i 4), (4, uV k), (16, bV false)] [(0, some (59, (a5 l m w))), (2, some (78, .ds (qH o)))] 3 zo ?_
    refine zf ?_
    refine AW.exit ?_
    refine kK [.no, .no] True [(2, oV 2 0 i 4)] [(0, some (59, (a5 l m w))), (2, some (78, .ds (qH o)))] 3 trivial ?_
    refine AW.freeze 2 (l' := [(2, .e (eR o i))]) (g' := [(0, some (59, (a5 l m w)))]) rfl (FzS.cons rfl (.e (.c (@FzC.own 2 ((qH o) : List D) 0 i 4 true ((qH o) : List D) lE yQ))) FzS.nil) (uO rfl rfl FzG.nil) ?_
    obtain ⟨hz1, hz2⟩ := DbI.fin hI zo
    have hz3 : ka1 (yX l u) = i := by rw [hz2]; omega
    refine AW.ret ?_
    exact kC (.inr rfl) [] (P := (((qH (yX l u)) : List D) = (qH o)) ∧ (((ka1 (yX l u)) : Nat) = i) ∧ (([db l m, uD (kL (j0 l u)), iD (kT (j0 l u))] : List D) = [db l m, uD (kL w), iD (kT w)])) zk ⟨(by first | rfl | exact hz3 | (rw [hz1]; done) | (rw [hz2]; done) | (rw [hz2, hz3]; done) | omega | (rw [hz1]; rfl) | (rw [hz2, hz3]; rfl)), (by first | rfl | exact hz3 | (rw [hz1]; done) | (rw [hz2]; done) | (rw [hz2, hz3]; done) | omega | (rw [hz1]; rfl) | (rw [hz2, hz3]; rfl)), (by first | rfl | exact hz3 | (rw [hz1]; done) | (rw [hz2]; done) | (rw [hz2, hz3]; done) | omega | (rw [hz1]; rfl) | (rw [hz2, hz3]; rfl))⟩
end Go.Proofs.Ytalbpleglapihaa
