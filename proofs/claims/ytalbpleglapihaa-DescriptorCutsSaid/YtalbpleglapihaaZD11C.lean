/- What is read in a row. No statement is proved here. -/
import Derived.Test.YtalbpleglapihaaZD11B
namespace Go.Proofs.Ytalbpleglapihaa
open Go.ChangeShapes Go.WideShapes Go.ChangeAt Go.RowKit
set_option linter.unusedVariables false
set_option linter.unusedSimpArgs false
/-! chapter 11: what is read in a row -/
set_option maxHeartbeats 4000000
set_option maxRecDepth 100000
def mF (f : RS → RS) : Nat → RS → RS
  | 0, u => u
  | n + 1, u => if kT u = 0 then mF f n (f u) else u
def wE {α : Type} (f : RS → RS) (v : RS → List α) : Nat → RS → List α
  | 0, _ => []
  | n + 1, u => if kT u = 0 then v u ++ wE f v n (f u) else []
theorem o1 {f : RS → RS} {n : Nat} {u : RS} (h : kT u = 0) : mF f (n + 1) u = mF f n (f u) := if_pos h
theorem k16 {f : RS → RS} {n : Nat} {u : RS} (h : ¬ kT u = 0) : mF f n u = u := by
  cases n with
  | zero => rfl
  | succ n => exact if_neg h
theorem wD {α : Type} {f : RS → RS} {v : RS → List α} {n : Nat} {u : RS} (h : kT u = 0) : wE f v (n + 1) u = v u ++ wE f v n (f u) := if_pos h
theorem k15 {α : Type} {f : RS → RS} {v : RS → List α} {n : Nat} {u : RS} (h : ¬ kT u = 0) : wE f v n u = [] := by
  cases n with
  | zero => rfl
  | succ n => exact if_neg h
theorem hC {f : RS → RS} {m : Nat} (hf : ∀ u, kL u ≤ m → kL (f u) ≤ m) : ∀ (n : Nat) (u : RS), kL u ≤ m → kL (mF f n u) ≤ m
  | 0, u, h => h
  | n + 1, u, h => by
    by_cases hq : kT u = 0
    · rw [o1 hq]; exact hC hf n _ (hf u h)
    · rw [k16 hq]; exact h
theorem dJ {α : Type} {f : RS → RS} {v : RS → List α} {s : Nat} (hv : ∀ u, (v u).length = s) : ∀ (n : Nat) (u : RS), ∃ c, c ≤ n ∧ (wE f v n u).length = c * s
  | 0, u => ⟨0, Nat.le_refl _, by rw [Nat.zero_mul]; rfl⟩
  | n + 1, u => by
    by_cases hq : kT u = 0
    · obtain ⟨c, h1, h2⟩ := dJ hv n (f u)
      exact ⟨c + 1, by omega, by rw [wD hq, List.length_append, hv, h2, Nat.succ_mul]; omega⟩
    · exact ⟨0, by omega, by rw [k15 hq, Nat.zero_mul]; rfl⟩
theorem mE {α : Type} {f : RS → RS} {v : RS → List α} {p : α → Prop} (hv : ∀ u, ∀ x ∈ v u, p x) : ∀ (n : Nat) (u : RS), ∀ x ∈ wE f v n u, p x
  | 0, u, x, h => by cases h
  | n + 1, u, x, h => by
    by_cases hq : kT u = 0
    · rw [wD hq] at h
      rcases List.mem_append.1 h with h | h
      · exact hv u x h
      · exact mE hv n (f u) x h
    · rw [k15 hq] at h; cases h
def ItI {α : Type} (f : RS → RS) (v : RS → List α) (n0 : Nat) (u0 : RS) (k : Nat) (w : RS) (o : List α) : Prop := mF f n0 u0 = mF f k w ∧ wE f v n0 u0 = o ++ wE f v k w
theorem ItI.zero {α : Type} (f : RS → RS) (v : RS → List α) (n0 : Nat) (u0 : RS) : ItI f v n0 u0 n0 u0 [] := ⟨rfl, rfl⟩
theorem ItI.step {α : Type} {f : RS → RS} {v : RS → List α} {n0 : Nat} {u0 : RS} {k : Nat} {w : RS} {o : List α} (h : ItI f v n0 u0 k w o) (hk : 0 < k) (hq : kT w = 0) : ItI f v n0 u0 (k - 1) (f w) (o ++ v w) := by
  obtain ⟨k, rfl⟩ : ∃ j, k = j + 1 := ⟨k - 1, by omega⟩
  refine ⟨by rw [h.1, o1 hq]; rfl, ?_⟩
  rw [h.2, wD hq, List.append_assoc]; rfl
theorem ItI.fin {α : Type} {f : RS → RS} {v : RS → List α} {n0 : Nat} {u0 : RS} {k : Nat} {w : RS} {o : List α} (h : ItI f v n0 u0 k w o) (hk : k = 0 ∨ ¬ kT w = 0) : mF f n0 u0 = w ∧ wE f v n0 u0 = o := by
  rcases hk with rfl | hk
  · exact ⟨h.1, by rw [h.2]; exact List.append_nil _⟩
  · exact ⟨by rw [h.1, k16 hk], by rw [h.2, k15 hk, List.append_nil]⟩
def seX (l : List Int) (w : RS) : List Int := [u9 l w, u9 l (kD 4 l w)]
def seF (l : List Int) (w : RS) : RS := kD 4 l (kD 4 l w)
def uU (l : List Int) (u : RS) : RS := mF (seF l) (kV l u) (kD 2 l u)
def c8 (l : List Int) (u : RS) : List Int := wE (seF l) (seX l) (kV l u) (kD 2 l u)
def aC (l : List Int) (u : RS) : Nat := List.length (c8 l u) / 2
def SeI (l : List Int) (u : RS) (k : Nat) (w : RS) (o : List Int) : Prop := ItI (seF l) (seX l) (kV l u) (kD 2 l u) k w o
theorem SeI.zero (l : List Int) (u : RS) : SeI l u (kV l u) (kD 2 l u) [] := ItI.zero _ _ _ _
theorem SeI.step {l : List Int} {u : RS} {k : Nat} {w : RS} {o : List Int} (h : SeI l u k w o) (hk : 0 < k) (hq : kT w = 0) : SeI l u (k - 1) (kD 4 l (kD 4 l w)) (o ++ [u9 l w, u9 l (kD 4 l w)]) := ItI.step h hk hq
theorem SeI.fin {l : List Int} {u : RS} {k : Nat} {w : RS} {o : List Int} (h : SeI l u k w o) (hk : k = 0 ∨ ¬ kT w = 0) : uU l u = w ∧ c8 l u = o := ItI.fin h hk
theorem k3y {l : List Int} {u : RS} {o : List Int} {i : Nat} (h : c8 l u = o) (ho : List.length o = i * 2) : aC l u = i := by unfold aC; rw [h, ho]; omega
theorem k7l {m : Nat} {l : List Int} (hm : l.length = m) (u : RS) (h : kL u ≤ m) : kL (seF l u) ≤ m := uW hm (uW hm h)
theorem lV {m : Nat} {l : List Int} {u : RS} (hm : l.length = m) (hu : kL u ≤ m) : kL (uU l u) ≤ m := hC (k7l hm) _ _ (uW hm hu)
theorem b6 {l : List Int} (hy : Byt l) (u : RS) : List.length (c8 l u) = aC l u * 2 ∧ aC l u ≤ 65535 := by
  obtain ⟨c, h1, h2⟩ := dJ (f := seF l) (v := seX l) (s := 2) (fun _ => rfl) (kV l u) (kD 2 l u)
  have h3 := yD hy u
  have h4 : aC l u = c := k3y rfl h2
  rw [h4]; exact ⟨h2, by omega⟩
def dcX (l : List Int) (w : RS) : List Int := [((kV l w : Nat) : Int)]
def eB (l : List Int) (u : RS) : RS := mF (kD 2 l) (kV l u) (kD 2 l u)
def cO (l : List Int) (u : RS) : List Int := wE (kD 2 l) (dcX l) (kV l u) (kD 2 l u)
def DcI (l : List Int) (u : RS) (k : Nat) (w : RS) (o : List Int) : Prop := ItI (kD 2 l) (dcX l) (kV l u) (kD 2 l u) k w o
theorem DcI.zero (l : List Int) (u : RS) : DcI l u (kV l u) (kD 2 l u) [] := ItI.zero _ _ _ _
theorem DcI.step {l : List Int} {u : RS} {k : Nat} {w : RS} {o : List Int} (h : DcI l u k w o) (hk : 0 < k) (hq : kT w = 0) : DcI l u (k - 1) (kD 2 l w) (o ++ [((kV l w : Nat) : Int)]) := ItI.step h hk hq
theorem DcI.fin {l : List Int} {u : RS} {k : Nat} {w : RS} {o : List Int} (h : DcI l u k w o) (hk : k = 0 ∨ ¬ kT w = 0) : eB l u = w ∧ cO l u = o := ItI.fin h hk
theorem k30 {m : Nat} {l : List Int} {u : RS} (hm : l.length = m) (hu : kL u ≤ m) : kL (eB l u) ≤ m := hC (fun _ h => uW hm h) _ _ (uW hm hu)
theorem wM {l : List Int} (hy : Byt l) (u : RS) : List.length (cO l u) ≤ 65535 := by
  obtain ⟨c, h1, h2⟩ := dJ (f := kD 2 l) (v := dcX l) (s := 1) (fun _ => rfl) (kV l u) (kD 2 l u)
  have h3 := yD hy u
  have h4 : List.length (cO l u) = c * 1 := h2
  omega
def mzX (l : List Int) (w : RS) : List (List Int) := [cO l w]
def vN (l : List Int) (u : RS) : RS := mF (eB l) (kV l u) (kD 2 l u)
def bH (l : List Int) (u : RS) : List (List Int) := wE (eB l) (mzX l) (kV l u) (kD 2 l u)
def MzI (l : List Int) (u : RS) (k : Nat) (w : RS) (o : List (List Int)) : Prop := ItI (eB l) (mzX l) (kV l u) (kD 2 l u) k w o
theorem MzI.zero (l : List Int) (u : RS) : MzI l u (kV l u) (kD 2 l u) [] := ItI.zero _ _ _ _
theorem MzI.step {l : List Int} {u : RS} {k : Nat} {w : RS} {o : List (List Int)} (h : MzI l u k w o) (hk : 0 < k) (hq : kT w = 0) : MzI l u (k - 1) (eB l w) (o ++ [cO l w]) := ItI.step h hk hq
theorem MzI.fin {l : List Int} {u : RS} {k : Nat} {w : RS} {o : List (List Int)} (h : MzI l u k w o) (hk : k = 0 ∨ ¬ kT w = 0) : vN l u = w ∧ bH l u = o := ItI.fin h hk
theorem k0q {m : Nat} {l : List Int} {u : RS} (hm : l.length = m) (hu : kL u ≤ m) : kL (vN l u) ≤ m := hC (fun _ h => k30 hm h) _ _ (uW hm hu)
theorem t8 {l : List Int} (hy : Byt l) (u : RS) : List.length (bH l u) ≤ 65535 := by
  obtain ⟨c, h1, h2⟩ := dJ (f := eB l) (v := mzX l) (s := 1) (fun _ => rfl) (kV l u) (kD 2 l u)
  have h3 := yD hy u
  have h4 : List.length (bH l u) = c * 1 := h2
  omega
theorem k6c {l : List Int} (hy : Byt l) (u : RS) : MsW (bH l u) := mE (p := fun x => List.length x ≤ 1000000) (fun w x hx => by
  rw [List.mem_singleton.1 hx]; have := wM hy w; omega) _ _
def dbX (l : List Int) (w : RS) : List Bx := [bT ((kV l w : Nat) : Int) (c8 l (kD 2 l w)) (aC l (kD 2 l w)) (bH l (uU l (kD 2 l w))) (c8 l (vN l (uU l (kD 2 l w)))) (aC l (vN l (uU l (kD 2 l w))))]
def dbF (l : List Int) (w : RS) : RS := uU l (vN l (uU l (kD 2 l w)))
def jW (l : List Int) (u : RS) : RS := mF (dbF l) (kV l u) (kD 2 l u)
def yV (l : List Int) (u : RS) : List Bx := wE (dbF l) (dbX l) (kV l u) (kD 2 l u)
def DbI (l : List Int) (u : RS) (k : Nat) (w : RS) (o : List Bx) : Prop := ItI (dbF l) (dbX l) (kV l u) (kD 2 l u) k w o
theorem DbI.zero (l : List Int) (u : RS) : DbI l u (kV l u) (kD 2 l u) [] := ItI.zero _ _ _ _
theorem DbI.step {l : List Int} {u : RS} {k : Nat} {w : RS} {o : List Bx} (h : DbI l u k w o) (hk : 0 < k) (hq : kT w = 0) : DbI l u (k - 1) (uU l (vN l (uU l (kD 2 l w)))) (o ++ [bT ((kV l w : Nat) : Int) (c8 l (kD 2 l w)) (aC l (kD 2 l w)) (bH l (uU l (kD 2 l w))) (c8 l (vN l (uU l (kD 2 l w)))) (aC l (vN l (uU l (kD 2 l w))))]) := ItI.step h hk hq
theorem DbI.fin {l : List Int} {u : RS} {k : Nat} {w : RS} {o : List Bx} (h : DbI l u k w o) (hk : k = 0 ∨ ¬ kT w = 0) : jW l u = w ∧ yV l u = o := ItI.fin h hk
theorem k32 {m : Nat} {l : List Int} {u : RS} (hm : l.length = m) (hu : kL u ≤ m) : kL (jW l u) ≤ m := hC (fun _ h => lV hm (k0q hm (lV hm (uW hm h)))) _ _ (uW hm hu)
theorem mZ {l : List Int} (hy : Byt l) (u : RS) : List.length (yV l u) ≤ 65535 := by
  obtain ⟨c, h1, h2⟩ := dJ (f := dbF l) (v := dbX l) (s := 1) (fun _ => rfl) (kV l u) (kD 2 l u)
  have h3 := yD hy u
  have h4 : List.length (yV l u) = c * 1 := h2
  omega
theorem u1z {l : List Int} (hy : Byt l) (w : RS) : BsW (dbX l w) := by
  refine BsW.one ?_
  have h1 := b6 hy (kD 2 l w); have h2 := b6 hy (vN l (uU l (kD 2 l w))); have h3 := t8 hy (uU l (kD 2 l w))
  exact ⟨h1.1, h2.1, Nat.le_trans h1.2 (by omega), Nat.le_trans h2.2 (by omega), Nat.le_trans h3 (by omega), k6c hy _⟩
theorem k31 {l : List Int} (hy : Byt l) (u : RS) : BsW (yV l u) := mE (p := BxW) (fun w => u1z hy w) _ _
attribute [local irreducible] uU c8 aC eB cO vN bH jW yV kD kV u9
theorem uJ {p : Prop} (h : p := by first | omega | with_reducible assumption | (simp only [kR, kQ, pbL_len, List.length_append, List.length_cons, List.length_nil, List.length_take, List.length_drop, List.length_replicate, List.length_set] <;> omega) | rfl | assumption) : p := h
theorem yO {p : Prop} (h : p := by first | omega | (simp only [kR, kQ, pbL_len, qL, List.length_append, List.length_cons, List.length_nil, List.length_take, List.length_drop, List.length_replicate, List.length_set, List.length_map, List.length_reverse, Nat.mul_one] <;> omega) | rfl) : p := h
theorem j9 {p : Prop} (h : p := by first | omega | (simp only [kR, kQ, pbL_len, List.length_append, List.length_cons, List.length_nil] <;> omega)) : p := h
theorem j8 {p : Prop} (h : p := by first | rfl | omega | assumption | (simp; done) | (simp; omega)) : p := h
theorem lA {p : Prop} (h : p := by rw [List.drop_zero, List.take_of_length_le (by first | omega | (simp only [kR, kQ, pbL_len, qL, List.length_append, List.length_cons, List.length_nil, List.length_take, List.length_drop, List.length_replicate, List.length_set, List.length_map, List.length_reverse, Nat.mul_one] <;> omega))]) : p := h
abbrev a6 (l : List Int) (m : Nat) (w : RS) : BC := .ds [D.sl (dI .u8 l) m, iD (((kL w) : Nat) : Int), iD (kT w)]
theorem k7b (l : List Int) (m : Nat) (u : RS) (hm : List.length l = m) (hb : m ≤ 1000000) (hy : Byt l) (hu : kL u ≤ m) : Fun 57 [.c (.ptr 0 0)] (kG [(0, some (59, .ds [D.sl (dI .u8 l) m, iD (((kL u) : Nat) : Int), iD (kT u)]))]) 1 (.e (.agg [.d (D.sl (dI .i64 (c8 l u)) (aC l u))])) (kG [(0, some (59, .ds [D.sl (dI .u8 l) m, iD (((kL (uU l u)) : Nat) : Int), iD (kT (uU l u))]))]) 1 := by
  refine Fun.mk (n := 31) Try.func57 rfl rfl (Nat.le_of_ble_eq_true rfl) ?_
  intro cx hcx
  refine kK [.no] True [(0, rV 0 0), (2, rV 1 0)] [(0, some (59, .ds [db l m, uD (kL u), iD (kT u)])), (1, some (75, .ds [qI]))] 2 trivial ?_
  refine kK [.no] True [(0, rV 0 0), (2, rV 1 0), (3, rV 2 0)] [(0, some (59, .ds [db l m, uD (kL u), iD (kT u)])), (1, some (75, .ds [qI])), (2, some (75, .ds [qI]))] 3 trivial ?_
  refine AW.seq ?_
  have hx1 : ((kL (kD 2 l u)) ≤ m) := (uW (zo) (uJ))
  have hx2 : ((kV l u) ≤ 65535) := (yD (kS : Byt l) u)
  refine kK [.no, .call [0] (uV (kV l u)) [(0, some (59, .ds [db l m, uD (kL (kD 2 l u)), iD (kT (kD 2 l u))]))] 1 [] none, .no] _ [(0, rV 0 0), (2, rV 1 0), (3, rV 2 0), (4, uV (kV l u))] [(0, some (59, .ds [db l m, uD (kL (kD 2 l u)), iD (kT (kD 2 l u))])), (1, some (75, .ds [qI])), (2, some (75, .ds [qI]))] 3 (vB l m u zo zo (kS : Byt l) uJ) ?_
  refine AW.block ?_
  refine j4 2 0 2 96 (cs' := [.own 3 0 0 2 true]) rfl rfl rfl ?_
  refine kW 1 hcx (fun (x : {x : Nat × Nat × RS × List Int // match x with | (k, i, w, o) => (SeI l u k w o) ∧ (List.length o = i * 2 ∧ i + k ≤ 65535) ∧ (kL w ≤ m)}) => match x with | ⟨(k, i, w, o), _⟩ => (⟨[(0, rV 0 0), (2, rV 1 0), (3, rV 2 0), (4, uV k)], [(0, some (59, (a6 l m w))), (1, some (75, .ds [qI])), (2, some (75, .cs [.own 4 0 i 2 true])), (4, some (96, .ds (dI .i64 o)))], 5⟩ : ES)) (fun x => match x with | ⟨(k, i, w, o), _⟩ => k) ⟨(((kV l u) : Nat), (0 : Nat), ((kD 2 l u) : RS), (([] : List Int) : List Int)), ⟨(SeI.zero l u), ⟨rfl, by omega⟩, zo⟩⟩ [(4, 3)] (P := (kM 0) ∧ (kM 0) ∧ (kM 0) ∧ (kN (kV l u : Int)) ∧ (k8 [db l m, uD (kL (kD 2 l u)), iD (kT (kD 2 l u))]) ∧ (k8 [qI]) ∧ (kM 0) ∧ (kM 0) ∧ (((dI .i64 ([] : List Int)) : List D) = ([] : List D))) zk ⟨rfl, rfl, rfl, rfl, rfl, rfl, rfl, rfl, (by first | rfl | with_reducible assumption)⟩ ?_
  rintro ⟨⟨k, i, w, o⟩, hinv0⟩
  obtain ⟨hI, ho, hw⟩ : (SeI l u k w o) ∧ (List.length o = i * 2 ∧ i + k ≤ 65535) ∧ (kL w ≤ m) := hinv0
  refine uI (l := [(0, rV 0 0), (2, rV 1 0), (3, rV 2 0), (4, uV k)]) (g := [(0, some (59, (a6 l m w))), (1, some (75, .ds [qI])), (2, some (75, .cs [.own 4 0 i 2 true])), (4, some (96, .ds (dI .i64 o)))]) (nx := 5) rfl rfl rfl ?_
  refine AW.seq ?_
  by_cases hx3 : ((0 : Int) < ((k : Nat) : Int))
  · by_cases hx4 : ((kT w) = 0)
    · refine zr (.no :: .b true :: kU 5 [.b true, .no]) [0, 2, 3, 4, 16] [0, 1, 2, 4] ((((0 : Int) < (k : Int))) ∧ (((kT w) = 0))) [(0, rV 0 0), (2, rV 1 0), (3, rV 2 0), (4, uV k), (16, bV true)] [(0, some (59, (a6 l m w))), (1, some (75, .ds [qI])), (2, some (75, .cs [.own 4 0 i 2 true])), (4, some (96, .ds (dI .i64 o)))] 5 ⟨zo, zo⟩ ?_
      refine vC ?_
      refine AW.seq ?_
      refine AW.block ?_
      have hx5 : ((kL (kD 4 l w)) ≤ m) := (uW (zo) (uJ))
      have hx6 : (((0 : Int) ≤ (u9 l w)) ∧ ((u9 l w) ≤ 4294967295)) := (lJ (kS : Byt l) w)
      refine kK [.no, .call [0] (iV (u9 l w)) [(0, some (59, .ds [db l m, uD (kL (kD 4 l w)), iD (kT (kD 4 l w))]))] 1 [] none, .no] _ [(0, rV 0 0), (2, rV 1 0), (3, rV 2 0), (4, uV k), (5, iV (u9 l w))] [(0, some (59, .ds [db l m, uD (kL (kD 4 l w)), iD (kT (kD 4 l w))])), (1, some (75, .ds [qI])), (2, some (75, .cs [.own 4 0 i 2 true])), (4, some (96, .ds (dI .i64 o)))] 5 (nF l m w zo zo (kS : Byt l) uJ) ?_
      have hx7 : ((kL (kD 4 l (kD 4 l w))) ≤ m) := (uW (zo) (uJ))
      have hx8 : (((0 : Int) ≤ (u9 l (kD 4 l w))) ∧ ((u9 l (kD 4 l w)) ≤ 4294967295)) := (lJ (kS : Byt l) (kD 4 l w))
      refine aV (kU 4 [.call [0] (iV (u9 l (kD 4 l w))) [(0, some (59, .ds [db l m, uD (kL (kD 4 l (kD 4 l w))), iD (kT (kD 4 l (kD 4 l w)))]))] 1 [] none, .no, .no, .ap none (i + 1) (dI .i64 (o ++ ([(u9 l w), (u9 l (kD 4 l w))] : List Int))), .no, .no]) ((_) ∧ ([iD (u9 l w), iD (u9 l (kD 4 l w))].length = 1 * 2) ∧ (((dI .i64 o) : List D).length = i * 2) ∧ ((i + 1) * 16 ≤ 140737488355328) ∧ (i + 1 = (i + 1)) ∧ (((dI .i64 o) : List D) ++ [iD (u9 l w), iD (u9 l (kD 4 l w))] = (dI .i64 (o ++ ([(u9 l w), (u9 l (kD 4 l w))] : List Int))))) [(0, rV 0 0), (2, rV 1 0), (3, rV 2 0), (4, uV k)] [(0, some (59, .ds [db l m, uD (kL (kD 4 l (kD 4 l w))), iD (kT (kD 4 l (kD 4 l w)))])), (1, some (75, .ds [qI])), (2, some (75, .cs [.own 6 0 (i + 1) 2 true])), (6, some (96, .ds (dI .i64 (o ++ ([(u9 l w), (u9 l (kD 4 l w))] : List Int)))))] 7 ⟨(nF l m (kD 4 l w) zo zo (kS : Byt l) uJ), yO, yO, zo, zo, (qK .i64 o ([(u9 l w), (u9 l (kD 4 l w))] : List Int))⟩ ?_
      refine yG [.no, .w, .no] (qM ((k : Int) - 1)) [(0, rV 0 0), (2, rV 1 0), (3, rV 2 0), (4, iV (↑k - 1))] ⟨by omega, by omega⟩ ?_
      exact qR ⟨(((k - 1) : Nat), ((i + 1) : Nat), ((kD 4 l (kD 4 l w)) : RS), ((o ++ ([(u9 l w), (u9 l (kD 4 l w))] : List Int)) : List Int)), ⟨(hI.step zo zo), j9, zo⟩⟩ [(4, 6)] (P := (kM 0) ∧ (kM 0) ∧ (kM 0) ∧ (((((k - 1) : Nat) : Int) : Int) = ((k : Int) - 1)) ∧ (k8 [db l m, uD (kL (kD 4 l (kD 4 l w))), iD (kT (kD 4 l (kD 4 l w)))]) ∧ (k8 [qI]) ∧ (kM 0) ∧ (kM (i + 1)) ∧ (k8 (dI .i64 (o ++ ([(u9 l w), (u9 l (kD 4 l w))] : List Int))))) zk ⟨rfl, rfl, rfl, j8, rfl, rfl, rfl, rfl, rfl⟩ (show (k - 1) < k from (by first | omega | (show _ < _; simp; omega)))
    · refine zr (.no :: .b true :: kU 5 [.b false, .no]) [0, 2, 3, 4, 16] [0, 1, 2, 4] ((((0 : Int) < (k : Int))) ∧ (¬ ((kT w) = 0))) [(0, rV 0 0), (2, rV 1 0), (3, rV 2 0), (4, uV k), (16, bV false)] [(0, some (59, (a6 l m w))), (1, some (75, .ds [qI])), (2, some (75, .cs [.own 4 0 i 2 true])), (4, some (96, .ds (dI .i64 o)))] 5 ⟨zo, zo⟩ ?_
      refine zf ?_
      refine AW.exit ?_
      refine kK [.no, .no] True [(2, rV 1 0)] [(0, some (59, (a6 l m w))), (1, some (75, .cs [.own 4 0 i 2 true])), (4, some (96, .ds (dI .i64 o)))] 5 trivial ?_
      refine AW.freeze 4 (l' := [(2, rV 1 0)]) (g' := [(0, some (59, (a6 l m w))), (1, some (75, .ds [dl o i]))]) rfl (FzS.cons rfl (.same _) FzS.nil) (uO rfl rfl (FzG.to (bc := .cs [.own 4 0 i 2 true]) rfl (by rfl) (FzL.cons (@FzC.own 4 ((dI .i64 o) : List D) 0 i 2 true ((dI .i64 o) : List D) lA yO) FzL.nil) FzG.nil)) ?_
      obtain ⟨hz1, hz2⟩ := SeI.fin hI zo
      have hz3 : aC l u = i := k3y hz2 (by omega)
      refine AW.ret ?_
      exact kC (.inr rfl) [] (P := (((dI .i64 (c8 l u)) : List D) = (dI .i64 o)) ∧ (((aC l u) : Nat) = i) ∧ (([db l m, uD (kL (uU l u)), iD (kT (uU l u))] : List D) = [db l m, uD (kL w), iD (kT w)])) zk ⟨(by first | rfl | exact hz3 | (rw [hz1]; done) | (rw [hz2]; done) | (rw [hz2, hz3]; done) | omega | (rw [hz1]; rfl) | (rw [hz2, hz3]; rfl)), (by first | rfl | exact hz3 | (rw [hz1]; done) | (rw [hz2]; done) | (rw [hz2, hz3]; done) | omega | (rw [hz1]; rfl) | (rw [hz2, hz3]; rfl)), (by first | rfl | exact hz3 | (rw [hz1]; done) | (rw [hz2]; done) | (rw [hz2, hz3]; done) | omega | (rw [hz1]; rfl) | (rw [hz2, hz3]; rfl))⟩
  · refine zr [.no, .b false, .no, .no] [0, 2, 3, 4, 16] [0, 1, 2, 4] (¬ ((0 : Int) < (k : Int))) [(0, rV 0 0), (2, rV 1 0), (3, rV 2 0), (4, uV k), (16, bV false)] [(0, some (59, (a6 l m w))), (1, some (75, .ds [qI])), (2, some (75, .cs [.own 4 0 i 2 true])), (4, some (96, .ds (dI .i64 o)))] 5 zo ?_
    refine zf ?_
    refine AW.exit ?_
    refine kK [.no, .no] True [(2, rV 1 0)] [(0, some (59, (a6 l m w))), (1, some (75, .cs [.own 4 0 i 2 true])), (4, some (96, .ds (dI .i64 o)))] 5 trivial ?_
    refine AW.freeze 4 (l' := [(2, rV 1 0)]) (g' := [(0, some (59, (a6 l m w))), (1, some (75, .ds [dl o i]))]) rfl (FzS.cons rfl (.same _) FzS.nil) (uO rfl rfl (FzG.to (bc := .cs [.own 4 0 i 2 true]) rfl (by rfl) (FzL.cons (@FzC.own 4 ((dI .i64 o) : List D) 0 i 2 true ((dI .i64 o) : List D) lA yO) FzL.nil) FzG.nil)) ?_
    obtain ⟨hz1, hz2⟩ := SeI.fin hI zo
    have hz3 : aC l u = i := k3y hz2 (by omega)
    refine AW.ret ?_
    exact kC (.inr rfl) [] (P := (((dI .i64 (c8 l u)) : List D) = (dI .i64 o)) ∧ (((aC l u) : Nat) = i) ∧ (([db l m, uD (kL (uU l u)), iD (kT (uU l u))] : List D) = [db l m, uD (kL w), iD (kT w)])) zk ⟨(by first | rfl | exact hz3 | (rw [hz1]; done) | (rw [hz2]; done) | (rw [hz2, hz3]; done) | omega | (rw [hz1]; rfl) | (rw [hz2, hz3]; rfl)), (by first | rfl | exact hz3 | (rw [hz1]; done) | (rw [hz2]; done) | (rw [hz2, hz3]; done) | omega | (rw [hz1]; rfl) | (rw [hz2, hz3]; rfl)), (by first | rfl | exact hz3 | (rw [hz1]; done) | (rw [hz2]; done) | (rw [hz2, hz3]; done) | omega | (rw [hz1]; rfl) | (rw [hz2, hz3]; rfl))⟩
theorem lB {p : Prop} (h : p := by rw [List.drop_zero, Nat.mul_one, List.take_of_length_le (by first | omega | (simp only [kR, kQ, pbL_len, qL, List.length_append, List.length_cons, List.length_nil, List.length_take, List.length_drop, List.length_replicate, List.length_set, List.length_map, List.length_reverse, Nat.mul_one] <;> omega))]) : p := h
abbrev a5 (l : List Int) (m : Nat) (w : RS) : BC := .ds [D.sl (dI .u8 l) m, iD (((kL w) : Nat) : Int), iD (kT w)]
theorem k9i (l : List Int) (m : Nat) (u : RS) (hm : List.length l = m) (hb : m ≤ 1000000) (hy : Byt l) (hu : kL u ≤ m) : Fun 70 [.c (.ptr 0 0)] (kG [(0, some (59, .ds [D.sl (dI .u8 l) m, iD (((kL u) : Nat) : Int), iD (kT u)]))]) 1 (sV .i64 (cO l u) (List.length (cO l u))) (kG [(0, some (59, .ds [D.sl (dI .u8 l) m, iD (((kL (eB l u)) : Nat) : Int), iD (kT (eB l u))]))]) 1 := by
  refine Fun.mk (n := 24) Try.func70 rfl rfl (Nat.le_of_ble_eq_true rfl) ?_
  intro cx hcx
  refine kK [.no] True [(0, rV 0 0)] [(0, some (59, .ds [db l m, uD (kL u), iD (kT u)]))] 1 trivial ?_
  refine kX [.no] True [(0, rV 0 0), (3, nV)] trivial ?_
  refine AW.seq ?_
  have hx1 : ((kL (kD 2 l u)) ≤ m) := (uW (zo) (uJ))
  have hx2 : ((kV l u) ≤ 65535) := (yD (kS : Byt l) u)
  refine kK [.no, .call [0] (uV (kV l u)) [(0, some (59, .ds [db l m, uD (kL (kD 2 l u)), iD (kT (kD 2 l u))]))] 1 [] none, .no] _ [(0, rV 0 0), (3, nV), (4, uV (kV l u))] [(0, some (59, .ds [db l m, uD (kL (kD 2 l u)), iD (kT (kD 2 l u))]))] 1 (vB l m u zo zo (kS : Byt l) uJ) ?_
  refine AW.block ?_
  refine AW.adoptS 3 1 3 rfl ?_
  refine kW 1 hcx (fun (x : {x : Nat × Nat × RS × List Int // match x with | (k, i, w, o) => (DcI l u k w o) ∧ (List.length o = i * 1 ∧ i + k ≤ 65535) ∧ (kL w ≤ m)}) => match x with | ⟨(k, i, w, o), _⟩ => (⟨[(0, rV 0 0), (3, oV 2 0 i 1), (4, uV k)], [(0, some (59, (a5 l m w))), (2, some (3, .ds (dI .i64 o)))], 3⟩ : ES)) (fun x => match x with | ⟨(k, i, w, o), _⟩ => k) ⟨(((kV l u) : Nat), (0 : Nat), ((kD 2 l u) : RS), (([] : List Int) : List Int)), ⟨(DcI.zero l u), ⟨rfl, by omega⟩, zo⟩⟩ [(2, 1)] (P := (kM 0) ∧ (kM 0) ∧ (kM 0) ∧ (kN (kV l u : Int)) ∧ (k8 [db l m, uD (kL (kD 2 l u)), iD (kT (kD 2 l u))]) ∧ (((dI .i64 ([] : List Int)) : List D) = ([] : List D))) zk ⟨rfl, rfl, rfl, rfl, rfl, (by first | rfl | with_reducible assumption)⟩ ?_
  rintro ⟨⟨k, i, w, o⟩, hinv0⟩
  obtain ⟨hI, ho, hw⟩ : (DcI l u k w o) ∧ (List.length o = i * 1 ∧ i + k ≤ 65535) ∧ (kL w ≤ m) := hinv0
  refine uI (l := [(0, rV 0 0), (3, oV 2 0 i 1), (4, uV k)]) (g := [(0, some (59, (a5 l m w))), (2, some (3, .ds (dI .i64 o)))]) (nx := 3) rfl rfl rfl ?_
  refine AW.seq ?_
  by_cases hx3 : ((0 : Int) < ((k : Nat) : Int))
  · by_cases hx4 : ((kT w) = 0)
    · refine zr (.no :: .b true :: kU 5 [.b true, .no]) [0, 3, 4, 15] [0, 2] ((((0 : Int) < (k : Int))) ∧ (((kT w) = 0))) [(0, rV 0 0), (3, oV 2 0 i 1), (4, uV k), (15, bV true)] [(0, some (59, (a5 l m w))), (2, some (3, .ds (dI .i64 o)))] 3 ⟨zo, zo⟩ ?_
      refine vC ?_
      refine AW.seq ?_
      refine AW.block ?_
      have hx5 : ((kL (kD 2 l w)) ≤ m) := (uW (zo) (uJ))
      have hx6 : ((kV l w) ≤ 65535) := (yD (kS : Byt l) w)
      refine aV [.no, .no, .call [0] (uV (kV l w)) [(0, some (59, .ds [db l m, uD (kL (kD 2 l w)), iD (kT (kD 2 l w))]))] 1 [] none, .no, .ap none (i + 1) (dI .i64 (o ++ ([(kV l w : Int)] : List Int))), .no] ((_) ∧ ([uD (kV l w)].length = 1 * 1) ∧ (((dI .i64 o) : List D).length = i * 1) ∧ ((i + 1) * 8 ≤ 140737488355328) ∧ (i + 1 = (i + 1)) ∧ (((dI .i64 o) : List D) ++ [uD (kV l w)] = (dI .i64 (o ++ ([(kV l w : Int)] : List Int))))) [(0, rV 0 0), (3, oV 4 0 (i + 1) 1), (4, uV k)] [(0, some (59, .ds [db l m, uD (kL (kD 2 l w)), iD (kT (kD 2 l w))])), (4, some (3, .ds (dI .i64 (o ++ ([(kV l w : Int)] : List Int)))))] 5 ⟨(vB l m w zo zo (kS : Byt l) uJ), yO, yO, zo, zo, (qK .i64 o ([(kV l w : Int)] : List Int))⟩ ?_
      refine yG [.no, .w, .no] (qM ((k : Int) - 1)) [(0, rV 0 0), (3, oV 4 0 (i + 1) 1), (4, iV (↑k - 1))] ⟨by omega, by omega⟩ ?_
      exact qR ⟨(((k - 1) : Nat), ((i + 1) : Nat), ((kD 2 l w) : RS), ((o ++ ([(kV l w : Int)] : List Int)) : List Int)), ⟨(hI.step zo zo), j9, zo⟩⟩ [(2, 4)] (P := (kM 0) ∧ (kM 0) ∧ (kM (i + 1)) ∧ (((((k - 1) : Nat) : Int) : Int) = ((k : Int) - 1)) ∧ (k8 [db l m, uD (kL (kD 2 l w)), iD (kT (kD 2 l w))]) ∧ (k8 (dI .i64 (o ++ ([(kV l w : Int)] : List Int))))) zk ⟨rfl, rfl, rfl, j8, rfl, rfl⟩ (show (k - 1) < k from (by first | omega | (show _ < _; simp; omega)))
    · refine zr (.no :: .b true :: kU 5 [.b false, .no]) [0, 3, 4, 15] [0, 2] ((((0 : Int) < (k : Int))) ∧ (¬ ((kT w) = 0))) [(0, rV 0 0), (3, oV 2 0 i 1), (4, uV k), (15, bV false)] [(0, some (59, (a5 l m w))), (2, some (3, .ds (dI .i64 o)))] 3 ⟨zo, zo⟩ ?_
      refine zf ?_
      refine AW.exit ?_
      refine kK [.no, .no] True [(2, oV 2 0 i 1)] [(0, some (59, (a5 l m w))), (2, some (3, .ds (dI .i64 o)))] 3 trivial ?_
      refine AW.freeze 2 (l' := [(2, sV .i64 o i)]) (g' := [(0, some (59, (a5 l m w)))]) rfl (FzS.cons rfl (.e (.c (@FzC.own 2 ((dI .i64 o) : List D) 0 i 1 true ((dI .i64 o) : List D) lB yO))) FzS.nil) (uO rfl rfl FzG.nil) ?_
      obtain ⟨hz1, hz2⟩ := DcI.fin hI zo
      have hz3 : List.length (cO l u) = i := by rw [hz2]; omega
      refine AW.ret ?_
      exact kC (.inr rfl) [] (P := (((dI .i64 (cO l u)) : List D) = (dI .i64 o)) ∧ (((List.length (cO l u)) : Nat) = i) ∧ (([db l m, uD (kL (eB l u)), iD (kT (eB l u))] : List D) = [db l m, uD (kL w), iD (kT w)])) zk ⟨(by first | rfl | exact hz3 | (rw [hz1]; done) | (rw [hz2]; done) | (rw [hz2, hz3]; done) | omega | (rw [hz1]; rfl) | (rw [hz2, hz3]; rfl)), (by first | rfl | exact hz3 | (rw [hz1]; done) | (rw [hz2]; done) | (rw [hz2, hz3]; done) | omega | (rw [hz1]; rfl) | (rw [hz2, hz3]; rfl)), (by first | rfl | exact hz3 | (rw [hz1]; done) | (rw [hz2]; done) | (rw [hz2, hz3]; done) | omega | (rw [hz1]; rfl) | (rw [hz2, hz3]; rfl))⟩
  · refine zr [.no, .b false, .no, .no] [0, 3, 4, 15] [0, 2] (¬ ((0 : Int) < (k : Int))) [(0, rV 0 0), (3, oV 2 0 i 1), (4, uV k), (15, bV false)] [(0, some (59, (a5 l m w))), (2, some (3, .ds (dI .i64 o)))] 3 zo ?_
    refine zf ?_
    refine AW.exit ?_
    refine kK [.no, .no] True [(2, oV 2 0 i 1)] [(0, some (59, (a5 l m w))), (2, some (3, .ds (dI .i64 o)))] 3 trivial ?_
    refine AW.freeze 2 (l' := [(2, sV .i64 o i)]) (g' := [(0, some (59, (a5 l m w)))]) rfl (FzS.cons rfl (.e (.c (@FzC.own 2 ((dI .i64 o) : List D) 0 i 1 true ((dI .i64 o) : List D) lB yO))) FzS.nil) (uO rfl rfl FzG.nil) ?_
    obtain ⟨hz1, hz2⟩ := DcI.fin hI zo
    have hz3 : List.length (cO l u) = i := by rw [hz2]; omega
    refine AW.ret ?_
    exact kC (.inr rfl) [] (P := (((dI .i64 (cO l u)) : List D) = (dI .i64 o)) ∧ (((List.length (cO l u)) : Nat) = i) ∧ (([db l m, uD (kL (eB l u)), iD (kT (eB l u))] : List D) = [db l m, uD (kL w), iD (kT w)])) zk ⟨(by first | rfl | exact hz3 | (rw [hz1]; done) | (rw [hz2]; done) | (rw [hz2, hz3]; done) | omega | (rw [hz1]; rfl) | (rw [hz2, hz3]; rfl)), (by first | rfl | exact hz3 | (rw [hz1]; done) | (rw [hz2]; done) | (rw [hz2, hz3]; done) | omega | (rw [hz1]; rfl) | (rw [hz2, hz3]; rfl)), (by first | rfl | exact hz3 | (rw [hz1]; done) | (rw [hz2]; done) | (rw [hz2, hz3]; done) | omega | (rw [hz1]; rfl) | (rw [hz2, hz3]; rfl))⟩
abbrev a4 (l : List Int) (m : Nat) (w : RS) : BC := .ds [D.sl (dI .u8 l) m, iD (((kL w) : Nat) : Int), iD (kT w)]
theorem k9f (l : List Int) (m : Nat) (u : RS) (hm : List.length l = m) (hb : m ≤ 1000000) (hy : Byt l) (hu : kL u ≤ m) : Fun 58 [.c (.ptr 0 0)] (kG [(0, some (59, .ds [D.sl (dI .u8 l) m, iD (((kL u) : Nat) : Int), iD (kT u)]))]) 1 (qX (k9 (bH l u)) (List.length (bH l u))) (kG [(0, some (59, .ds [D.sl (dI .u8 l) m, iD (((kL (vN l u)) : Nat) : Int), iD (kT (vN l u))]))]) 1 := by
  refine Fun.mk (n := 24) Try.func58 rfl rfl (Nat.le_of_ble_eq_true rfl) ?_
  intro cx hcx
  refine kK [.no] True [(0, rV 0 0)] [(0, some (59, .ds [db l m, uD (kL u), iD (kT u)]))] 1 trivial ?_
  refine kX [.no] True [(0, rV 0 0), (3, nV)] trivial ?_
  refine AW.seq ?_
  have hx1 : ((kL (kD 2 l u)) ≤ m) := (uW (zo) (uJ))
  have hx2 : ((kV l u) ≤ 65535) := (yD (kS : Byt l) u)
  refine kK [.no, .call [0] (uV (kV l u)) [(0, some (59, .ds [db l m, uD (kL (kD 2 l u)), iD (kT (kD 2 l u))]))] 1 [] none, .no] _ [(0, rV 0 0), (3, nV), (4, uV (kV l u))] [(0, some (59, .ds [db l m, uD (kL (kD 2 l u)), iD (kT (kD 2 l u))]))] 1 (vB l m u zo zo (kS : Byt l) uJ) ?_
  refine AW.block ?_
  refine AW.adoptS 3 1 63 rfl ?_
  refine kW 1 hcx (fun (x : {x : Nat × Nat × RS × List (List Int) // match x with | (k, i, w, o) => (MzI l u k w o) ∧ (List.length o = i * 1 ∧ i + k ≤ 65535) ∧ (kL w ≤ m)}) => match x with | ⟨(k, i, w, o), _⟩ => (⟨[(0, rV 0 0), (3, oV 2 0 i 1), (4, uV k)], [(0, some (59, (a4 l m w))), (2, some (63, .ds (k9 o)))], 3⟩ : ES)) (fun x => match x with | ⟨(k, i, w, o), _⟩ => k) ⟨(((kV l u) : Nat), (0 : Nat), ((kD 2 l u) : RS), (([] : List (List Int)) : List (List Int))), ⟨(MzI.zero l u), ⟨rfl, by omega⟩, zo⟩⟩ [(2, 1)] (P := (kM 0) ∧ (kM 0) ∧ (kM 0) ∧ (kN (kV l u : Int)) ∧ (k8 [db l m, uD (kL (kD 2 l u)), iD (kT (kD 2 l u))]) ∧ (((k9 ([] : List (List Int))) : List D) = ([] : List D))) zk ⟨rfl, rfl, rfl, rfl, rfl, (by first | rfl | with_reducible assumption)⟩ ?_
  rintro ⟨⟨k, i, w, o⟩, hinv0⟩
  obtain ⟨hI, ho, hw⟩ : (MzI l u k w o) ∧ (List.length o = i * 1 ∧ i + k ≤ 65535) ∧ (kL w ≤ m) := hinv0
  refine uI (l := [(0, rV 0 0), (3, oV 2 0 i 1), (4, uV k)]) (g := [(0, some (59, (a4 l m w))), (2, some (63, .ds (k9 o)))]) (nx := 3) rfl rfl rfl ?_
  refine AW.seq ?_
  by_cases hx3 : ((0 : Int) < ((k : Nat) : Int))
  · by_cases hx4 : ((kT w) = 0)
    · refine zr (.no :: .b true :: kU 5 [.b true, .no]) [0, 3, 4, 15] [0, 2] ((((0 : Int) < (k : Int))) ∧ (((kT w) = 0))) [(0, rV 0 0), (3, oV 2 0 i 1), (4, uV k), (15, bV true)] [(0, some (59, (a4 l m w))), (2, some (63, .ds (k9 o)))] 3 ⟨zo, zo⟩ ?_
      refine vC ?_
      refine AW.seq ?_
      refine AW.block ?_
      have hx5 : ((kL (eB l w)) ≤ m) := (k30 (zo) (uJ))
      have hx6 : ((List.length (cO l w)) ≤ 65535) := (wM (kS : Byt l) w)
      refine aV [.no, .no, .call [0] (sV .i64 (cO l w) (List.length (cO l w))) [(0, some (59, .ds [db l m, uD (kL (eB l w)), iD (kT (eB l w))]))] 1 [] none, .no, .ap none (i + 1) (k9 (o ++ ([(cO l w)] : List (List Int)))), .no] ((_) ∧ ([dl (cO l w) (List.length (cO l w))].length = 1 * 1) ∧ (((k9 o) : List D).length = i * 1) ∧ ((i + 1) * 24 ≤ 140737488355328) ∧ (i + 1 = (i + 1)) ∧ (((k9 o) : List D) ++ [dl (cO l w) (List.length (cO l w))] = (k9 (o ++ ([(cO l w)] : List (List Int)))))) [(0, rV 0 0), (3, oV 4 0 (i + 1) 1), (4, uV k)] [(0, some (59, .ds [db l m, uD (kL (eB l w)), iD (kT (eB l w))])), (4, some (63, .ds (k9 (o ++ ([(cO l w)] : List (List Int))))))] 5 ⟨(k9i l m w zo zo (kS : Byt l) uJ), yO, yO, zo, zo, (t9 o (cO l w) (List.length (cO l w)) (by first | rfl | omega))⟩ ?_
      refine yG [.no, .w, .no] (qM ((k : Int) - 1)) [(0, rV 0 0), (3, oV 4 0 (i + 1) 1), (4, iV (↑k - 1))] ⟨by omega, by omega⟩ ?_
      exact qR ⟨(((k - 1) : Nat), ((i + 1) : Nat), ((eB l w) : RS), ((o ++ ([(cO l w)] : List (List Int))) : List (List Int))), ⟨(hI.step zo zo), j9, zo⟩⟩ [(2, 4)] (P := (kM 0) ∧ (kM 0) ∧ (kM (i + 1)) ∧ (((((k - 1) : Nat) : Int) : Int) = ((k : Int) - 1)) ∧ (k8 [db l m, uD (kL (eB l w)), iD (kT (eB l w))]) ∧ (k8 (k9 (o ++ ([(cO l w)] : List (List Int)))))) zk ⟨rfl, rfl, rfl, j8, rfl, rfl⟩ (show (k - 1) < k from (by first | omega | (show _ < _; simp; omega)))
    · refine zr (.no :: .b true :: kU 5 [.b false, .no]) [0, 3, 4, 15] [0, 2] ((((0 : Int) < (k : Int))) ∧ (¬ ((kT w) = 0))) [(0, rV 0 0), (3, oV 2 0 i 1), (4, uV k), (15, bV false)] [(0, some (59, (a4 l m w))), (2, some (63, .ds (k9 o)))] 3 ⟨zo, zo⟩ ?_
      refine zf ?_
      refine AW.exit ?_
      refine kK [.no, .no] True [(2, oV 2 0 i 1)] [(0, some (59, (a4 l m w))), (2, some (63, .ds (k9 o)))] 3 trivial ?_
      refine AW.freeze 2 (l' := [(2, qX (k9 o) i)]) (g' := [(0, some (59, (a4 l m w)))]) rfl (FzS.cons rfl (.e (.c (@FzC.own 2 ((k9 o) : List D) 0 i 1 true ((k9 o) : List D) lB yO))) FzS.nil) (uO rfl rfl FzG.nil) ?_
      obtain ⟨hz1, hz2⟩ := MzI.fin hI zo
      have hz3 : List.length (bH l u) = i := by rw [hz2]; omega
      refine AW.ret ?_
      exact kC (.inr rfl) [] (P := (((k9 (bH l u)) : List D) = (k9 o)) ∧ (((List.length (bH l u)) : Nat) = i) ∧ (([db l m, uD (kL (vN l u)), iD (kT (vN l u))] : List D) = [db l m, uD (kL w), iD (kT w)])) zk ⟨(by first | rfl | exact hz3 | (rw [hz1]; done) | (rw [hz2]; done) | (rw [hz2, hz3]; done) | omega | (rw [hz1]; rfl) | (rw [hz2, hz3]; rfl)), (by first | rfl | exact hz3 | (rw [hz1]; done) | (rw [hz2]; done) | (rw [hz2, hz3]; done) | omega | (rw [hz1]; rfl) | (rw [hz2, hz3]; rfl)), (by first | rfl | exact hz3 | (rw [hz1]; done) | (rw [hz2]; done) | (rw [hz2, hz3]; done) | omega | (rw [hz1]; rfl) | (rw [hz2, hz3]; rfl))⟩
  · refine zr [.no, .b false, .no, .no] [0, 3, 4, 15] [0, 2] (¬ ((0 : Int) < (k : Int))) [(0, rV 0 0), (3, oV 2 0 i 1), (4, uV k), (15, bV false)] [(0, some (59, (a4 l m w))), (2, some (63, .ds (k9 o)))] 3 zo ?_
    refine zf ?_
    refine AW.exit ?_
    refine kK [.no, .no] True [(2, oV 2 0 i 1)] [(0, some (59, (a4 l m w))), (2, some (63, .ds (k9 o)))] 3 trivial ?_
    refine AW.freeze 2 (l' := [(2, qX (k9 o) i)]) (g' := [(0, some (59, (a4 l m w)))]) rfl (FzS.cons rfl (.e (.c (@FzC.own 2 ((k9 o) : List D) 0 i 1 true ((k9 o) : List D) lB yO))) FzS.nil) (uO rfl rfl FzG.nil) ?_
    obtain ⟨hz1, hz2⟩ := MzI.fin hI zo
    have hz3 : List.length (bH l u) = i := by rw [hz2]; omega
    refine AW.ret ?_
    exact kC (.inr rfl) [] (P := (((k9 (bH l u)) : List D) = (k9 o)) ∧ (((List.length (bH l u)) : Nat) = i) ∧ (([db l m, uD (kL (vN l u)), iD (kT (vN l u))] : List D) = [db l m, uD (kL w), iD (kT w)])) zk ⟨(by first | rfl | exact hz3 | (rw [hz1]; done) | (rw [hz2]; done) | (rw [hz2, hz3]; done) | omega | (rw [hz1]; rfl) | (rw [hz2, hz3]; rfl)), (by first | rfl | exact hz3 | (rw [hz1]; done) | (rw [hz2]; done) | (rw [hz2, hz3]; done) | omega | (rw [hz1]; rfl) | (rw [hz2, hz3]; rfl)), (by first | rfl | exact hz3 | (rw [hz1]; done) | (rw [hz2]; done) | (rw [hz2, hz3]; done) | omega | (rw [hz1]; rfl) | (rw [hz2, hz3]; rfl))⟩
abbrev vR (l : List Int) (w : RS) := c8 l (vN l (uU l (kD 2 l w)))
abbrev a3 (l : List Int) (m : Nat) (w : RS) : BC := .ds [D.sl (dI .u8 l) m, iD (((kL w) : Nat) : Int), iD (kT w)]
abbrev rJ (l : List Int) (m : Nat) (w : RS) : BC := .ds [D.sl (dI .u8 l) m, iD (((kL (uU l (vN l (uU l (kD 2 l w))))) : Nat) : Int), iD (kT (uU l (vN l (uU l (kD 2 l w)))))]
@[reducible] def q1M (x : List Bx) : E1 := (.c (.d (D.sl (qH x) (List.length x))))
theorem k5x (l : List Int) (m : Nat) (u : RS) (hm : List.length l = m) (hb : m ≤ 1000000) (hy : Byt l) (hu : kL u ≤ m) : Fun 42 [.c (.ptr 0 0)] (kG [(0, some (59, .ds [D.sl (dI .u8 l) m, iD (((kL u) : Nat) : Int), iD (kT u)]))]) 1 (.e (q1M (yV l u))) (kG [(0, some (59, .ds [D.sl (dI .u8 l) m, iD (((kL (jW l u)) : Nat) : Int), iD (kT (jW l u))]))]) 1 := by
  refine Fun.mk (n := 36) Try.func42 rfl rfl (Nat.le_of_ble_eq_true rfl) ?_
  intro cx hcx
  refine kK [.no] True [(0, rV 0 0)] [(0, some (59, .ds [db l m, uD (kL u), iD (kT u)]))] 1 trivial ?_
  refine kX [.no] True [(0, rV 0 0), (3, nV)] trivial ?_
  refine AW.seq ?_
  have hx1 : ((kL (kD 2 l u)) ≤ m) := (uW (zo) (uJ))
  have hx2 : ((kV l u) ≤ 65535) := (yD (kS : Byt l) u)
  refine kK [.no, .call [0] (uV (kV l u)) [(0, some (59, .ds [db l m, uD (kL (kD 2 l u)), iD (kT (kD 2 l u))]))] 1 [] none, .no] _ [(0, rV 0 0), (3, nV), (4, uV (kV l u))] [(0, some (59, .ds [db l m, uD (kL (kD 2 l u)), iD (kT (kD 2 l u))]))] 1 (vB l m u zo zo (kS : Byt l) uJ) ?_
  refine AW.block ?_
  refine AW.adoptS 3 4 78 rfl ?_
  refine kW 1 hcx (fun (x : {x : Nat × Nat × RS × List Bx // match x with | (k, i, w, o) => (DbI l u k w o) ∧ (List.length o = i * 1 ∧ i + k ≤ 65535) ∧ (kL w ≤ m)}) => match x with | ⟨(k, i, w, o), _⟩ => (⟨[(0, rV 0 0), (3, oV 2 0 i 4), (4, uV k)], [(0, some (59, (a3 l m w))), (2, some (78, .ds (qH o)))], 3⟩ : ES)) (fun x => match x with | ⟨(k, i, w, o), _⟩ => k) ⟨(((kV l u) : Nat), (0 : Nat), ((kD 2 l u) : RS), (([] : List Bx) : List Bx)), ⟨(DbI.zero l u), ⟨rfl, by omega⟩, zo⟩⟩ [(2, 1)] (P := (kM 0) ∧ (kM 0) ∧ (kM 0) ∧ (kN (kV l u : Int)) ∧ (k8 [db l m, uD (kL (kD 2 l u)), iD (kT (kD 2 l u))]) ∧ (((qH ([] : List Bx)) : List D) = ([] : List D))) zk ⟨rfl, rfl, rfl, rfl, rfl, (by first | rfl | with_reducible assumption)⟩ ?_
  rintro ⟨⟨k, i, w, o⟩, hinv0⟩
  obtain ⟨hI, ho, hw⟩ : (DbI l u k w o) ∧ (List.length o = i * 1 ∧ i + k ≤ 65535) ∧ (kL w ≤ m) := hinv0
  refine uI (l := [(0, rV 0 0), (3, oV 2 0 i 4), (4, uV k)]) (g := [(0, some (59, (a3 l m w))), (2, some (78, .ds (qH o)))]) (nx := 3) rfl rfl rfl ?_
  refine AW.seq ?_
  by_cases hx3 : ((0 : Int) < ((k : Nat) : Int))
  · by_cases hx4 : ((kT w) = 0)
    · refine zr (.no :: .b true :: kU 5 [.b true, .no]) [0, 3, 4, 16] [0, 2] ((((0 : Int) < (k : Int))) ∧ (((kT w) = 0))) [(0, rV 0 0), (3, oV 2 0 i 4), (4, uV k), (16, bV true)] [(0, some (59, (a3 l m w))), (2, some (78, .ds (qH o)))] 3 ⟨zo, zo⟩ ?_
      refine vC ?_
      refine AW.seq ?_
      refine AW.block ?_
      have hx5 : ((kL (kD 2 l w)) ≤ m) := (uW (zo) (uJ))
      have hx6 : ((kV l w) ≤ 65535) := (yD (kS : Byt l) w)
      refine kK [.no, .call [0] (uV (kV l w)) [(0, some (59, .ds [db l m, uD (kL (kD 2 l w)), iD (kT (kD 2 l w))]))] 1 [] none, .no, .no, .no] _ [(0, rV 0 0), (3, oV 2 0 i 4), (4, uV k), (5, rV 3 0)] [(0, some (59, .ds [db l m, uD (kL (kD 2 l w)), iD (kT (kD 2 l w))])), (2, some (78, .ds (qH o))), (3, some (78, .ds [uD (kV l w), qI, qI, qI]))] 4 (vB l m w zo zo (kS : Byt l) uJ) ?_
      have hx7 : ((kL (uU l (kD 2 l w))) ≤ m) := (lV (zo) (uJ))
      have hx8 : ((List.length (c8 l (kD 2 l w))) = ((aC l (kD 2 l w)) * 2)) := (b6 (kS : Byt l) (kD 2 l w)).1
      have hx9 : ((aC l (kD 2 l w)) ≤ 65535) := (b6 (kS : Byt l) (kD 2 l w)).2
      refine kK [.no, .call [0] (.e (.agg [.d (dl (c8 l (kD 2 l w)) (aC l (kD 2 l w)))])) [(0, some (59, .ds [db l m, uD (kL (uU l (kD 2 l w))), iD (kT (uU l (kD 2 l w)))]))] 1 [] none, .no, .no] _ [(0, rV 0 0), (3, oV 2 0 i 4), (4, uV k), (5, rV 3 0)] [(0, some (59, .ds [db l m, uD (kL (uU l (kD 2 l w))), iD (kT (uU l (kD 2 l w)))])), (2, some (78, .ds (qH o))), (3, some (78, .ds [uD (kV l w), dl (c8 l (kD 2 l w)) (aC l (kD 2 l w)), qI, qI]))] 4 (k7b l m (kD 2 l w) zo zo (kS : Byt l) uJ) ?_
      have hx10 : ((kL (vN l (uU l (kD 2 l w)))) ≤ m) := (k0q (zo) (uJ))
      have hx11 : ((List.length (bH l (uU l (kD 2 l w)))) ≤ 65535) := (t8 (kS : Byt l) (uU l (kD 2 l w)))
      have hx12 : (MsW (bH l (uU l (kD 2 l w)))) := (k6c (kS : Byt l) (uU l (kD 2 l w)))
      refine kK [.no, .call [0] (qX (k9 (bH l (uU l (kD 2 l w)))) (List.length (bH l (uU l (kD 2 l w))))) [(0, some (59, .ds [db l m, iD (kL (vN l (uU l (kD 2 l w))) : Int), iD (kT (vN l (uU l (kD 2 l w))))]))] 1 [] none, .no, .no] _ [(0, rV 0 0), (3, oV 2 0 i 4), (4, uV k), (5, rV 3 0)] [(0, some (59, .ds [db l m, iD (kL (vN l (uU l (kD 2 l w))) : Int), iD (kT (vN l (uU l (kD 2 l w))))])), (2, some (78, .ds (qH o))), (3, some (78, .ds [uD (kV l w), dl (c8 l (kD 2 l w)) (aC l (kD 2 l w)), D.sl (k9 (bH l (uU l (kD 2 l w)))) (List.length (bH l (uU l (kD 2 l w)))), qI]))] 4 (k9f l m (uU l (kD 2 l w)) zo zo (kS : Byt l) uJ) ?_
      have hx13 : ((kL (uU l (vN l (uU l (kD 2 l w))))) ≤ m) := (lV (zo) (uJ))
      have hx14 : ((List.length (vR l w)) = ((aC l (vN l (uU l (kD 2 l w)))) * 2)) := (b6 (kS : Byt l) (vN l (uU l (kD 2 l w)))).1
      have hx15 : ((aC l (vN l (uU l (kD 2 l w)))) ≤ 65535) := (b6 (kS : Byt l) (vN l (uU l (kD 2 l w)))).2
      refine kK [.no, .call [0] (.e (.agg [.d (dl (vR l w) (aC l (vN l (uU l (kD 2 l w)))))])) [(0, some (59, (rJ l m w)))] 1 [] none, .no, .no] _ [(0, rV 0 0), (3, oV 2 0 i 4), (4, uV k), (5, rV 3 0)] [(0, some (59, (rJ l m w))), (2, some (78, .ds (qH o))), (3, some (78, .ds [uD (kV l w), dl (c8 l (kD 2 l w)) (aC l (kD 2 l w)), D.sl (k9 (bH l (uU l (kD 2 l w)))) (List.length (bH l (uU l (kD 2 l w)))), dl (vR l w) (aC l (vN l (uU l (kD 2 l w))))]))] 4 (k7b l m (vN l (uU l (kD 2 l w))) zo zo (kS : Byt l) uJ) ?_
      refine aV [.no, .no, .no, .ap none (i + 1) (qH (o ++ ([(bT (kV l w : Int) (c8 l (kD 2 l w)) (aC l (kD 2 l w)) (bH l (uU l (kD 2 l w))) (vR l w) (aC l (vN l (uU l (kD 2 l w)))))] : List Bx))), .no] (([uD (kV l w), dl (c8 l (kD 2 l w)) (aC l (kD 2 l w)), D.sl (k9 (bH l (uU l (kD 2 l w)))) (List.length (bH l (uU l (kD 2 l w)))), dl (vR l w) (aC l (vN l (uU l (kD 2 l w))))].length = 1 * 4) ∧ (((qH o) : List D).length = i * 4) ∧ ((i + 1) * 80 ≤ 140737488355328) ∧ (i + 1 = (i + 1)) ∧ (((qH o) : List D) ++ [uD (kV l w), dl (c8 l (kD 2 l w)) (aC l (kD 2 l w)), D.sl (k9 (bH l (uU l (kD 2 l w)))) (List.length (bH l (uU l (kD 2 l w)))), dl (vR l w) (aC l (vN l (uU l (kD 2 l w))))] = (qH (o ++ ([(bT (kV l w : Int) (c8 l (kD 2 l w)) (aC l (kD 2 l w)) (bH l (uU l (kD 2 l w))) (vR l w) (aC l (vN l (uU l (kD 2 l w)))))] : List Bx))))) [(0, rV 0 0), (3, oV 5 0 (i + 1) 4), (4, uV k)] [(0, some (59, (rJ l m w))), (5, some (78, .ds (qH (o ++ ([(bT (kV l w : Int) (c8 l (kD 2 l w)) (aC l (kD 2 l w)) (bH l (uU l (kD 2 l w))) (vR l w) (aC l (vN l (uU l (kD 2 l w)))))] : List Bx)))))] 6 ⟨yO, yO, zo, zo, (wN o (kV l w : Int) (c8 l (kD 2 l w)) (aC l (kD 2 l w)) (bH l (uU l (kD 2 l w))) (List.length (bH l (uU l (kD 2 l w)))) (vR l w) (aC l (vN l (uU l (kD 2 l w)))) (by first | rfl | omega))⟩ ?_
      refine yG [.no, .w, .no] (qM ((k : Int) - 1)) [(0, rV 0 0), (3, oV 5 0 (i + 1) 4), (4, iV (↑k - 1))] ⟨by omega, by omega⟩ ?_
      exact qR ⟨(((k - 1) : Nat), ((i + 1) : Nat), ((uU l (vN l (uU l (kD 2 l w)))) : RS), ((o ++ ([(bT (kV l w : Int) (c8 l (kD 2 l w)) (aC l (kD 2 l w)) (bH l (uU l (kD 2 l w))) (vR l w) (aC l (vN l (uU l (kD 2 l w)))))] : List Bx)) : List Bx)), ⟨(hI.step zo zo), j9, zo⟩⟩ [(2, 5)] (P := (kM 0) ∧ (kM 0) ∧ (kM (i + 1)) ∧ (((((k - 1) : Nat) : Int) : Int) = ((k : Int) - 1)) ∧ (k8 [db l m, iD (((kL (uU l (vN l (uU l (kD 2 l w))))) : Nat) : Int), iD (kT (uU l (vN l (uU l (kD 2 l w)))))]) ∧ (k8 (qH (o ++ ([(bT (kV l w : Int) (c8 l (kD 2 l w)) (aC l (kD 2 l w)) (bH l (uU l (kD 2 l w))) (vR l w) (aC l (vN l (uU l (kD 2 l w)))))] : List Bx))))) zk ⟨rfl, rfl, rfl, j8, rfl, rfl⟩ (show (k - 1) < k from (by first | omega | (show _ < _; simp; omega)))
    · refine zr (.no :: .b true :: kU 5 [.b false, .no]) [0, 3, 4, 16] [0, 2] ((((0 : Int) < (k : Int))) ∧ (¬ ((kT w) = 0))) [(0, rV 0 0), (3, oV 2 0 i 4), (4, uV k), (16, bV false)] [(0, some (59, (a3 l m w))), (2, some (78, .ds (qH o)))] 3 ⟨zo, zo⟩ ?_
      refine zf ?_
      refine AW.exit ?_
      refine kK [.no, .no] True [(2, oV 2 0 i 4)] [(0, some (59, (a3 l m w))), (2, some (78, .ds (qH o)))] 3 trivial ?_
      refine AW.freeze 2 (l' := [(2, .e (eM o i))]) (g' := [(0, some (59, (a3 l m w)))]) rfl (FzS.cons rfl (.e (.c (@FzC.own 2 ((qH o) : List D) 0 i 4 true ((qH o) : List D) lA yO))) FzS.nil) (uO rfl rfl FzG.nil) ?_
      obtain ⟨hz1, hz2⟩ := DbI.fin hI zo
      have hz3 : List.length (yV l u) = i := by rw [hz2]; omega
      refine AW.ret ?_
      exact kC (.inr rfl) [] (P := (((qH (yV l u)) : List D) = (qH o)) ∧ (((List.length (yV l u)) : Nat) = i) ∧ (([db l m, uD (kL (jW l u)), iD (kT (jW l u))] : List D) = [db l m, uD (kL w), iD (kT w)])) zk ⟨(by first | rfl | exact hz3 | (rw [hz1]; done) | (rw [hz2]; done) | (rw [hz2, hz3]; done) | omega | (rw [hz1]; rfl) | (rw [hz2, hz3]; rfl)), (by first | rfl | exact hz3 | (rw [hz1]; done) | (rw [hz2]; done) | (rw [hz2, hz3]; done) | omega | (rw [hz1]; rfl) | (rw [hz2, hz3]; rfl)), (by first | rfl | exact hz3 | (rw [hz1]; done) | (rw [hz2]; done) | (rw [hz2, hz3]; done) | omega | (rw [hz1]; rfl) | (rw [hz2, hz3]; rfl))⟩
  · refine zr [.no, .b false, .no, .no] [0, 3, 4, 16] [0, 2] (¬ ((0 : Int) < (k : Int))) [(0, rV 0 0), (3, oV 2 0 i 4), (4, uV k), (16, bV false)] [(0, some (59, (a3 l m w))), (2, some (78, .ds (qH o)))] 3 zo ?_
    refine zf ?_
    refine AW.exit ?_
    refine kK [.no, .no] True [(2, oV 2 0 i 4)] [(0, some (59, (a3 l m w))), (2, some (78, .ds (qH o)))] 3 trivial ?_
    refine AW.freeze 2 (l' := [(2, .e (eM o i))]) (g' := [(0, some (59, (a3 l m w)))]) rfl (FzS.cons rfl (.e (.c (@FzC.own 2 ((qH o) : List D) 0 i 4 true ((qH o) : List D) lA yO))) FzS.nil) (uO rfl rfl FzG.nil) ?_
    obtain ⟨hz1, hz2⟩ := DbI.fin hI zo
    have hz3 : List.length (yV l u) = i := by rw [hz2]; omega
    refine AW.ret ?_
    exact kC (.inr rfl) [] (P := (((qH (yV l u)) : List D) = (qH o)) ∧ (((List.length (yV l u)) : Nat) = i) ∧ (([db l m, uD (kL (jW l u)), iD (kT (jW l u))] : List D) = [db l m, uD (kL w), iD (kT w)])) zk ⟨(by first | rfl | exact hz3 | (rw [hz1]; done) | (rw [hz2]; done) | (rw [hz2, hz3]; done) | omega | (rw [hz1]; rfl) | (rw [hz2, hz3]; rfl)), (by first | rfl | exact hz3 | (rw [hz1]; done) | (rw [hz2]; done) | (rw [hz2, hz3]; done) | omega | (rw [hz1]; rfl) | (rw [hz2, hz3]; rfl)), (by first | rfl | exact hz3 | (rw [hz1]; done) | (rw [hz2]; done) | (rw [hz2, hz3]; done) | omega | (rw [hz1]; rfl) | (rw [hz2, hz3]; rfl))⟩
end Go.Proofs.Ytalbpleglapihaa
