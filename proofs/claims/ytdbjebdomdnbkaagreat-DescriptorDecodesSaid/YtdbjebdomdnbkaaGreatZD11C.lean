/- What is read in a row. No statement is proved here. -/
import Derived.Test.YtdbjebdomdnbkaaGreatZD11B
namespace Go.Proofs.YtdbjebdomdnbkaaGreat
open Go.ChangeShapes Go.WideShapes Go.ChangeAt Go.RowKit
open List renaming append_nil → kd1, drop_zero → kd7, length → ka1, length_append → ka4, length_cons → kb3, length_drop → kb9, length_map → kc8, length_nil → kb6, length_replicate → kb8, length_reverse → kc6, length_set → kc4, length_take → kb4, take_of_length_le → kc3
open Nat renaming le_of_ble_eq_true → ka3, le_trans → ke8, mul_one → kd0
set_option linter.unusedVariables false
set_option linter.unusedSimpArgs false
/-! chapter 11: what is read in a row -/
set_option maxHeartbeats 4000000
set_option maxRecDepth 100000
def mI (f : RS → RS) : Nat → RS → RS
  | 0, u => u
  | n + 1, u => if qC u = 0 then mI f n (f u) else u
def wD {α : Type} (f : RS → RS) (v : RS → List α) : Nat → RS → List α
  | 0, _ => []
  | n + 1, u => if qC u = 0 then v u ++ wD f v n (f u) else []
theorem lH {f : RS → RS} {n : Nat} {u : RS} (h : qC u = 0) : mI f (n + 1) u = mI f n (f u) := if_pos h
theorem k0a {f : RS → RS} {n : Nat} {u : RS} (h : ¬ qC u = 0) : mI f n u = u := by
  cases n with
  | zero => rfl
  | succ n => exact if_neg h
theorem s8 {α : Type} {f : RS → RS} {v : RS → List α} {n : Nat} {u : RS} (h : qC u = 0) : wD f v (n + 1) u = v u ++ wD f v n (f u) := if_pos h
theorem k41 {α : Type} {f : RS → RS} {v : RS → List α} {n : Nat} {u : RS} (h : ¬ qC u = 0) : wD f v n u = [] := by
  cases n with
  | zero => rfl
  | succ n => exact if_neg h
theorem lI {f : RS → RS} {m : Nat} (hf : ∀ u, kT u ≤ m → kT (f u) ≤ m) : ∀ (n : Nat) (u : RS), kT u ≤ m → kT (mI f n u) ≤ m
  | 0, u, h => h
  | n + 1, u, h => by
    by_cases hq : qC u = 0
    · rw [lH hq]; exact lI hf n _ (hf u h)
    · rw [k0a hq]; exact h
theorem fQ {α : Type} {f : RS → RS} {v : RS → List α} {s : Nat} (hv : ∀ u, (v u).length = s) : ∀ (n : Nat) (u : RS), ∃ c, c ≤ n ∧ (wD f v n u).length = c * s
  | 0, u => ⟨0, Nat.le_refl _, by rw [Nat.zero_mul]; rfl⟩
  | n + 1, u => by
    by_cases hq : qC u = 0
    · obtain ⟨c, h1, h2⟩ := fQ hv n (f u)
      exact ⟨c + 1, by omega, by rw [s8 hq, ka4, hv, h2, Nat.succ_mul]; omega⟩
    · exact ⟨0, by omega, by rw [k41 hq, Nat.zero_mul]; rfl⟩
theorem pC {α : Type} {f : RS → RS} {v : RS → List α} {p : α → Prop} (hv : ∀ u, ∀ x ∈ v u, p x) : ∀ (n : Nat) (u : RS), ∀ x ∈ wD f v n u, p x
  | 0, u, x, h => by cases h
  | n + 1, u, x, h => by
    by_cases hq : qC u = 0
    · rw [s8 hq] at h
      rcases List.mem_append.1 h with h | h
      · exact hv u x h
      · exact pC hv n (f u) x h
    · rw [k41 hq] at h; cases h
def ItI {α : Type} (f : RS → RS) (v : RS → List α) (n0 : Nat) (u0 : RS) (k : Nat) (w : RS) (o : List α) : Prop := mI f n0 u0 = mI f k w ∧ wD f v n0 u0 = o ++ wD f v k w
theorem ItI.zero {α : Type} (f : RS → RS) (v : RS → List α) (n0 : Nat) (u0 : RS) : ItI f v n0 u0 n0 u0 [] := ⟨rfl, rfl⟩
theorem ItI.step {α : Type} {f : RS → RS} {v : RS → List α} {n0 : Nat} {u0 : RS} {k : Nat} {w : RS} {o : List α} (h : ItI f v n0 u0 k w o) (hk : 0 < k) (hq : qC w = 0) : ItI f v n0 u0 (k - 1) (f w) (o ++ v w) := by
  obtain ⟨k, rfl⟩ : ∃ j, k = j + 1 := ⟨k - 1, by omega⟩
  refine ⟨by rw [h.1, lH hq]; rfl, ?_⟩
  rw [h.2, s8 hq, List.append_assoc]; rfl
theorem ItI.fin {α : Type} {f : RS → RS} {v : RS → List α} {n0 : Nat} {u0 : RS} {k : Nat} {w : RS} {o : List α} (h : ItI f v n0 u0 k w o) (hk : k = 0 ∨ ¬ qC w = 0) : mI f n0 u0 = w ∧ wD f v n0 u0 = o := by
  rcases hk with rfl | hk
  · exact ⟨h.1, by rw [h.2]; exact kd1 _⟩
  · exact ⟨by rw [h.1, k0a hk], by rw [h.2, k41 hk, kd1]⟩
def seX (l : List Int) (w : RS) : List Int := [qU l w, qU l (kE 4 l w)]
def seF (l : List Int) (w : RS) : RS := kE 4 l (kE 4 l w)
def yD (l : List Int) (u : RS) : RS := mI (seF l) (kK l u) (kE 2 l u)
def eX (l : List Int) (u : RS) : List Int := wD (seF l) (seX l) (kK l u) (kE 2 l u)
def bP (l : List Int) (u : RS) : Nat := ka1 (eX l u) / 2
def SeI (l : List Int) (u : RS) (k : Nat) (w : RS) (o : List Int) : Prop := ItI (seF l) (seX l) (kK l u) (kE 2 l u) k w o
theorem SeI.zero (l : List Int) (u : RS) : SeI l u (kK l u) (kE 2 l u) [] := ItI.zero _ _ _ _
theorem SeI.step {l : List Int} {u : RS} {k : Nat} {w : RS} {o : List Int} (h : SeI l u k w o) (hk : 0 < k) (hq : qC w = 0) : SeI l u (k - 1) (kE 4 l (kE 4 l w)) (o ++ [qU l w, qU l (kE 4 l w)]) := ItI.step h hk hq
theorem SeI.fin {l : List Int} {u : RS} {k : Nat} {w : RS} {o : List Int} (h : SeI l u k w o) (hk : k = 0 ∨ ¬ qC w = 0) : yD l u = w ∧ eX l u = o := ItI.fin h hk
theorem k7g {l : List Int} {u : RS} {o : List Int} {i : Nat} (h : eX l u = o) (ho : ka1 o = i * 2) : bP l u = i := by unfold bP; rw [h, ho]; omega
theorem u1x {m : Nat} {l : List Int} (hm : l.length = m) (u : RS) (h : kT u ≤ m) : kT (seF l u) ≤ m := yG hm (yG hm h)
theorem oP {m : Nat} {l : List Int} {u : RS} (hm : l.length = m) (hu : kT u ≤ m) : kT (yD l u) ≤ m := lI (u1x hm) _ _ (yG hm hu)
theorem eA {l : List Int} (hy : Byt l) (u : RS) : ka1 (eX l u) = bP l u * 2 ∧ bP l u ≤ 65535 := by
  obtain ⟨c, h1, h2⟩ := fQ (f := seF l) (v := seX l) (s := 2) (fun _ => rfl) (kK l u) (kE 2 l u)
  have h3 := qY hy u
  have h4 : bP l u = c := k7g rfl h2
  rw [h4]; exact ⟨h2, by omega⟩
def dcX (l : List Int) (w : RS) : List Int := [((kK l w : Nat) : Int)]
def fZ (l : List Int) (u : RS) : RS := mI (kE 2 l) (kK l u) (kE 2 l u)
def eH (l : List Int) (u : RS) : List Int := wD (kE 2 l) (dcX l) (kK l u) (kE 2 l u)
def DcI (l : List Int) (u : RS) (k : Nat) (w : RS) (o : List Int) : Prop := ItI (kE 2 l) (dcX l) (kK l u) (kE 2 l u) k w o
theorem DcI.zero (l : List Int) (u : RS) : DcI l u (kK l u) (kE 2 l u) [] := ItI.zero _ _ _ _
theorem DcI.step {l : List Int} {u : RS} {k : Nat} {w : RS} {o : List Int} (h : DcI l u k w o) (hk : 0 < k) (hq : qC w = 0) : DcI l u (k - 1) (kE 2 l w) (o ++ [((kK l w : Nat) : Int)]) := ItI.step h hk hq
theorem DcI.fin {l : List Int} {u : RS} {k : Nat} {w : RS} {o : List Int} (h : DcI l u k w o) (hk : k = 0 ∨ ¬ qC w = 0) : fZ l u = w ∧ eH l u = o := ItI.fin h hk
theorem k5z {m : Nat} {l : List Int} {u : RS} (hm : l.length = m) (hu : kT u ≤ m) : kT (fZ l u) ≤ m := lI (fun _ h => yG hm h) _ _ (yG hm hu)
theorem k0g {l : List Int} (hy : Byt l) (u : RS) : ka1 (eH l u) ≤ 65535 := by
  obtain ⟨c, h1, h2⟩ := fQ (f := kE 2 l) (v := dcX l) (s := 1) (fun _ => rfl) (kK l u) (kE 2 l u)
  have h3 := qY hy u
  have h4 : ka1 (eH l u) = c * 1 := h2
  omega
def mzX (l : List Int) (w : RS) : List (List Int) := [eH l w]
def aW (l : List Int) (u : RS) : RS := mI (fZ l) (kK l u) (kE 2 l u)
def dD (l : List Int) (u : RS) : List (List Int) := wD (fZ l) (mzX l) (kK l u) (kE 2 l u)
def MzI (l : List Int) (u : RS) (k : Nat) (w : RS) (o : List (List Int)) : Prop := ItI (fZ l) (mzX l) (kK l u) (kE 2 l u) k w o
theorem MzI.zero (l : List Int) (u : RS) : MzI l u (kK l u) (kE 2 l u) [] := ItI.zero _ _ _ _
theorem MzI.step {l : List Int} {u : RS} {k : Nat} {w : RS} {o : List (List Int)} (h : MzI l u k w o) (hk : 0 < k) (hq : qC w = 0) : MzI l u (k - 1) (fZ l w) (o ++ [eH l w]) := ItI.step h hk hq
theorem MzI.fin {l : List Int} {u : RS} {k : Nat} {w : RS} {o : List (List Int)} (h : MzI l u k w o) (hk : k = 0 ∨ ¬ qC w = 0) : aW l u = w ∧ dD l u = o := ItI.fin h hk
theorem k3l {m : Nat} {l : List Int} {u : RS} (hm : l.length = m) (hu : kT u ≤ m) : kT (aW l u) ≤ m := lI (fun _ h => k5z hm h) _ _ (yG hm hu)
theorem k01 {l : List Int} (hy : Byt l) (u : RS) : ka1 (dD l u) ≤ 65535 := by
  obtain ⟨c, h1, h2⟩ := fQ (f := fZ l) (v := mzX l) (s := 1) (fun _ => rfl) (kK l u) (kE 2 l u)
  have h3 := qY hy u
  have h4 : ka1 (dD l u) = c * 1 := h2
  omega
theorem u0h {l : List Int} (hy : Byt l) (u : RS) : MsW (dD l u) := pC (p := fun x => ka1 x ≤ 1000000) (fun w x hx => by
  rw [List.mem_singleton.1 hx]; have := k0g hy w; omega) _ _
def dbX (l : List Int) (w : RS) : List Bx := [aQ ((kK l w : Nat) : Int) (eX l (kE 2 l w)) (bP l (kE 2 l w)) (dD l (yD l (kE 2 l w))) (eX l (aW l (yD l (kE 2 l w)))) (bP l (aW l (yD l (kE 2 l w))))]
def dbF (l : List Int) (w : RS) : RS := yD l (aW l (yD l (kE 2 l w)))
def mM (l : List Int) (u : RS) : RS := mI (dbF l) (kK l u) (kE 2 l u)
def vD (l : List Int) (u : RS) : List Bx := wD (dbF l) (dbX l) (kK l u) (kE 2 l u)
def DbI (l : List Int) (u : RS) (k : Nat) (w : RS) (o : List Bx) : Prop := ItI (dbF l) (dbX l) (kK l u) (kE 2 l u) k w o
theorem DbI.zero (l : List Int) (u : RS) : DbI l u (kK l u) (kE 2 l u) [] := ItI.zero _ _ _ _
theorem DbI.step {l : List Int} {u : RS} {k : Nat} {w : RS} {o : List Bx} (h : DbI l u k w o) (hk : 0 < k) (hq : qC w = 0) : DbI l u (k - 1) (yD l (aW l (yD l (kE 2 l w)))) (o ++ [aQ ((kK l w : Nat) : Int) (eX l (kE 2 l w)) (bP l (kE 2 l w)) (dD l (yD l (kE 2 l w))) (eX l (aW l (yD l (kE 2 l w)))) (bP l (aW l (yD l (kE 2 l w))))]) := ItI.step h hk hq
theorem DbI.fin {l : List Int} {u : RS} {k : Nat} {w : RS} {o : List Bx} (h : DbI l u k w o) (hk : k = 0 ∨ ¬ qC w = 0) : mM l u = w ∧ vD l u = o := ItI.fin h hk
theorem k61 {m : Nat} {l : List Int} {u : RS} (hm : l.length = m) (hu : kT u ≤ m) : kT (mM l u) ≤ m := lI (fun _ h => oP hm (k3l hm (oP hm (yG hm h)))) _ _ (yG hm hu)
theorem pY {l : List Int} (hy : Byt l) (u : RS) : ka1 (vD l u) ≤ 65535 := by
  obtain ⟨c, h1, h2⟩ := fQ (f := dbF l) (v := dbX l) (s := 1) (fun _ => rfl) (kK l u) (kE 2 l u)
  have h3 := qY hy u
  have h4 : ka1 (vD l u) = c * 1 := h2
  omega
theorem u6w {l : List Int} (hy : Byt l) (w : RS) : BsW (dbX l w) := by
  refine BsW.one ?_
  have h1 := eA hy (kE 2 l w); have h2 := eA hy (aW l (yD l (kE 2 l w))); have h3 := k01 hy (yD l (kE 2 l w))
  exact ⟨h1.1, h2.1, ke8 h1.2 (by omega), ke8 h2.2 (by omega), ke8 h3 (by omega), u0h hy _⟩
theorem k60 {l : List Int} (hy : Byt l) (u : RS) : BsW (vD l u) := pC (p := BxW) (fun w => u6w hy w) _ _
attribute [local irreducible] yD eX bP fZ eH aW dD mM vD kE kK qU
theorem vE {p : Prop} (h : p := by (simp only [qA, k8, pbL_len, uF, ka4, kb3, kb6, kb4, kb9, kb8, kc4, kc8, kc6, kd0] <;> omega)) : p := h
theorem nT {p : Prop} (h : p := by (simp only [qA, k8, pbL_len, ka4, kb3, kb6] <;> omega)) : p := h
theorem nU {p : Prop} (h : p := by rw [kd7, kc3 (by (simp only [qA, k8, pbL_len, uF, ka4, kb3, kb6, kb4, kb9, kb8, kc4, kc8, kc6, kd0] <;> omega))]) : p := h
abbrev cX (l : List Int) (m : Nat) (w : RS) : BC := .ds [D.sl (dI .u8 l) m, iD (((kT w) : Nat) : Int), iD (qC w)]
theorem u1f (l : List Int) (m : Nat) (u : RS) (hm : ka1 l = m) (hb : m ≤ 1000000) (hy : Byt l) (hu : kT u ≤ m) : Fun 75 [.c (.ptr 0 0)] (kD [(0, some (62, .ds [D.sl (dI .u8 l) m, iD (((kT u) : Nat) : Int), iD (qC u)]))]) 1 (.e (.agg [.d (D.sl (dI .i64 (eX l u)) (bP l u))])) (kD [(0, some (62, .ds [D.sl (dI .u8 l) m, iD (((kT (yD l u)) : Nat) : Int), iD (qC (yD l u))]))]) 1 := by
  refine Fun.mk (n := 31) Tryz.func75 rfl rfl (ka3 rfl) ?_
  intro cx hcx
  refine kG [.no] True [(0, rV 0 0), (2, rV 1 0)] [(0, some (62, .ds [db l m, uD (kT u), iD (qC u)])), (1, some (50, .ds [k9]))] 2 trivial ?_
  refine kG [.no] True [(0, rV 0 0), (2, rV 1 0), (3, rV 2 0)] [(0, some (62, .ds [db l m, uD (kT u), iD (qC u)])), (1, some (50, .ds [k9])), (2, some (50, .ds [k9]))] 3 trivial ?_
  refine AW.seq ?_
  have hx1 : ((kT (kE 2 l u)) ≤ m) := (yG (zo) (zo))
  have hx2 : ((kK l u) ≤ 65535) := (qY (kL : Byt l) u)
  refine kG [.no, .call [0] (uV (kK l u)) [(0, some (62, .ds [db l m, uD (kT (kE 2 l u)), iD (qC (kE 2 l u))]))] 1 [] none, .no] _ [(0, rV 0 0), (2, rV 1 0), (3, rV 2 0), (4, uV (kK l u))] [(0, some (62, .ds [db l m, uD (kT (kE 2 l u)), iD (qC (kE 2 l u))])), (1, some (50, .ds [k9])), (2, some (50, .ds [k9]))] 3 (aL l m u zo zo (kL : Byt l) zo) ?_
  refine AW.block ?_
  refine cQ 2 0 2 90 (cs' := [.own 3 0 0 2 true]) rfl rfl rfl ?_
  refine kU 1 hcx (fun (x : {x : Nat × Nat × RS × List Int // match x with | (k, i, w, o) => (SeI l u k w o) ∧ (ka1 o = i * 2 ∧ i + k ≤ 65535) ∧ (kT w ≤ m)}) => match x with | ⟨(k, i, w, o), _⟩ => (⟨[(0, rV 0 0), (2, rV 1 0), (3, rV 2 0), (4, uV k)], [(0, some (62, (cX l m w))), (1, some (50, .ds [k9])), (2, some (50, .cs [.own 4 0 i 2 true])), (4, some (90, .ds (dI .i64 o)))], 5⟩ : ES)) (fun x => match x with | ⟨(k, i, w, o), _⟩ => k) ⟨(((kK l u) : Nat), (0 : Nat), ((kE 2 l u) : RS), (([] : List Int) : List Int)), ⟨(SeI.zero l u), ⟨rfl, by omega⟩, zo⟩⟩ [(4, 3)] (P := (kQ 0) ∧ (kQ 0) ∧ (kQ 0) ∧ (kM (kK l u : Int)) ∧ (kY [db l m, uD (kT (kE 2 l u)), iD (qC (kE 2 l u))]) ∧ (kY [k9]) ∧ (kQ 0) ∧ (kQ 0) ∧ (((dI .i64 ([] : List Int)) : List D) = ([] : List D))) zk ⟨rfl, rfl, rfl, rfl, rfl, rfl, rfl, rfl, (by rfl)⟩ ?_
  rintro ⟨⟨k, i, w, o⟩, hinv0⟩
  obtain ⟨hI, ho, hw⟩ : (SeI l u k w o) ∧ (ka1 o = i * 2 ∧ i + k ≤ 65535) ∧ (kT w ≤ m) := hinv0
  refine qV (l := [(0, rV 0 0), (2, rV 1 0), (3, rV 2 0), (4, uV k)]) (g := [(0, some (62, (cX l m w))), (1, some (50, .ds [k9])), (2, some (50, .cs [.own 4 0 i 2 true])), (4, some (90, .ds (dI .i64 o)))]) (nx := 5) rfl rfl rfl ?_
  refine AW.seq ?_
  by_cases hx3 : ((0 : Int) < ((k : Nat) : Int))
  · by_cases hx4 : ((qC w) = 0)
    · refine zr (.no :: .b true :: kJ 5 [.b true, .no]) [0, 2, 3, 4, 16] [0, 1, 2, 4] ((((0 : Int) < (k : Int))) ∧ (((qC w) = 0))) [(0, rV 0 0), (2, rV 1 0), (3, rV 2 0), (4, uV k), (16, bV true)] [(0, some (62, (cX l m w))), (1, some (50, .ds [k9])), (2, some (50, .cs [.own 4 0 i 2 true])), (4, some (90, .ds (dI .i64 o)))] 5 ⟨zo, zo⟩ ?_
      refine u1 ?_
      refine AW.seq ?_
      refine AW.block ?_
      have hx5 : ((kT (kE 4 l w)) ≤ m) := (yG (zo) (zo))
      have hx6 : (((0 : Int) ≤ (qU l w)) ∧ ((qU l w) ≤ 4294967295)) := (d9 (kL : Byt l) w)
      refine kG [.no, .call [0] (iV (qU l w)) [(0, some (62, .ds [db l m, uD (kT (kE 4 l w)), iD (qC (kE 4 l w))]))] 1 [] none, .no] _ [(0, rV 0 0), (2, rV 1 0), (3, rV 2 0), (4, uV k), (5, iV (qU l w))] [(0, some (62, .ds [db l m, uD (kT (kE 4 l w)), iD (qC (kE 4 l w))])), (1, some (50, .ds [k9])), (2, some (50, .cs [.own 4 0 i 2 true])), (4, some (90, .ds (dI .i64 o)))] 5 (rM l m w zo zo (kL : Byt l) zo) ?_
      have hx7 : ((kT (kE 4 l (kE 4 l w))) ≤ m) := (yG (zo) (zo))
      have hx8 : (((0 : Int) ≤ (qU l (kE 4 l w))) ∧ ((qU l (kE 4 l w)) ≤ 4294967295)) := (d9 (kL : Byt l) (kE 4 l w))
      refine aC (kJ 4 [.call [0] (iV (qU l (kE 4 l w))) [(0, some (62, .ds [db l m, uD (kT (kE 4 l (kE 4 l w))), iD (qC (kE 4 l (kE 4 l w)))]))] 1 [] none, .no, .no, .ap none (i + 1) (dI .i64 (o ++ ([(qU l w), (qU l (kE 4 l w))] : List Int))), .no, .no]) ((_) ∧ ([iD (qU l w), iD (qU l (kE 4 l w))].length = 1 * 2) ∧ (((dI .i64 o) : List D).length = i * 2) ∧ ((i + 1) * 16 ≤ 140737488355328) ∧ (i + 1 = (i + 1)) ∧ (((dI .i64 o) : List D) ++ [iD (qU l w), iD (qU l (kE 4 l w))] = (dI .i64 (o ++ ([(qU l w), (qU l (kE 4 l w))] : List Int))))) [(0, rV 0 0), (2, rV 1 0), (3, rV 2 0), (4, uV k)] [(0, some (62, .ds [db l m, uD (kT (kE 4 l (kE 4 l w))), iD (qC (kE 4 l (kE 4 l w)))])), (1, some (50, .ds [k9])), (2, some (50, .cs [.own 6 0 (i + 1) 2 true])), (6, some (90, .ds (dI .i64 (o ++ ([(qU l w), (qU l (kE 4 l w))] : List Int)))))] 7 ⟨(rM l m (kE 4 l w) zo zo (kL : Byt l) zo), vE, vE, zo, zo, (uK .i64 o ([(qU l w), (qU l (kE 4 l w))] : List Int))⟩ ?_
      refine uG [.no, .w, .no] (qB ((k : Int) - 1)) [(0, rV 0 0), (2, rV 1 0), (3, rV 2 0), (4, iV (↑k - 1))] ⟨by omega, by omega⟩ ?_
      exact qH ⟨(((k - 1) : Nat), ((i + 1) : Nat), ((kE 4 l (kE 4 l w)) : RS), ((o ++ ([(qU l w), (qU l (kE 4 l w))] : List Int)) : List Int)), ⟨(hI.step zo zo), nT, zo⟩⟩ [(4, 6)] (P := (kQ 0) ∧ (kQ 0) ∧ (kQ 0) ∧ (((((k - 1) : Nat) : Int) : Int) = ((k : Int) - 1)) ∧ (kY [db l m, uD (kT (kE 4 l (kE 4 l w))), iD (qC (kE 4 l (kE 4 l w)))]) ∧ (kY [k9]) ∧ (kQ 0) ∧ (kQ (i + 1)) ∧ (kY (dI .i64 (o ++ ([(qU l w), (qU l (kE 4 l w))] : List Int))))) zk ⟨rfl, rfl, rfl, zo, rfl, rfl, rfl, rfl, rfl⟩ (show (k - 1) < k from zo)
    · refine zr (.no :: .b true :: kJ 5 [.b false, .no]) [0, 2, 3, 4, 16] [0, 1, 2, 4] ((((0 : Int) < (k : Int))) ∧ (¬ ((qC w) = 0))) [(0, rV 0 0), (2, rV 1 0), (3, rV 2 0), (4, uV k), (16, bV false)] [(0, some (62, (cX l m w))), (1, some (50, .ds [k9])), (2, some (50, .cs [.own 4 0 i 2 true])), (4, some (90, .ds (dI .i64 o)))] 5 ⟨zo, zo⟩ ?_
      refine zf ?_
      refine AW.exit ?_
      refine kG [.no, .no] True [(2, rV 1 0)] [(0, some (62, (cX l m w))), (1, some (50, .cs [.own 4 0 i 2 true])), (4, some (90, .ds (dI .i64 o)))] 5 trivial ?_
      refine AW.freeze 4 (l' := [(2, rV 1 0)]) (g' := [(0, some (62, (cX l m w))), (1, some (50, .ds [dl o i]))]) rfl (FzS.cons rfl (.same _) FzS.nil) (qF rfl rfl (FzG.to (bc := .cs [.own 4 0 i 2 true]) rfl (by rfl) (FzL.cons (@FzC.own 4 ((dI .i64 o) : List D) 0 i 2 true ((dI .i64 o) : List D) nU vE) FzL.nil) FzG.nil)) ?_
      obtain ⟨hz1, hz2⟩ := SeI.fin hI zo
      have hz3 : bP l u = i := k7g hz2 (by omega)
      refine AW.ret ?_
      exact kB (.inr rfl) [] (P := (((dI .i64 (eX l u)) : List D) = (dI .i64 o)) ∧ (((bP l u) : Nat) = i) ∧ (([db l m, uD (kT (yD l u)), iD (qC (yD l u))] : List D) = [db l m, uD (kT w), iD (qC w)])) zk ⟨(by (rw [hz2]; done)), (by exact hz3), (by (rw [hz1]; done))⟩
  · refine zr [.no, .b false, .no, .no] [0, 2, 3, 4, 16] [0, 1, 2, 4] (¬ ((0 : Int) < (k : Int))) [(0, rV 0 0), (2, rV 1 0), (3, rV 2 0), (4, uV k), (16, bV false)] [(0, some (62, (cX l m w))), (1, some (50, .ds [k9])), (2, some (50, .cs [.own 4 0 i 2 true])), (4, some (90, .ds (dI .i64 o)))] 5 zo ?_
    refine zf ?_
    refine AW.exit ?_
    refine kG [.no, .no] True [(2, rV 1 0)] [(0, some (62, (cX l m w))), (1, some (50, .cs [.own 4 0 i 2 true])), (4, some (90, .ds (dI .i64 o)))] 5 trivial ?_
    refine AW.freeze 4 (l' := [(2, rV 1 0)]) (g' := [(0, some (62, (cX l m w))), (1, some (50, .ds [dl o i]))]) rfl (FzS.cons rfl (.same _) FzS.nil) (qF rfl rfl (FzG.to (bc := .cs [.own 4 0 i 2 true]) rfl (by rfl) (FzL.cons (@FzC.own 4 ((dI .i64 o) : List D) 0 i 2 true ((dI .i64 o) : List D) nU vE) FzL.nil) FzG.nil)) ?_
    obtain ⟨hz1, hz2⟩ := SeI.fin hI zo
    have hz3 : bP l u = i := k7g hz2 (by omega)
    refine AW.ret ?_
    exact kB (.inr rfl) [] (P := (((dI .i64 (eX l u)) : List D) = (dI .i64 o)) ∧ (((bP l u) : Nat) = i) ∧ (([db l m, uD (kT (yD l u)), iD (qC (yD l u))] : List D) = [db l m, uD (kT w), iD (qC w)])) zk ⟨(by (rw [hz2]; done)), (by exact hz3), (by (rw [hz1]; done))⟩
theorem nW {p : Prop} (h : p := by rw [kd7, kd0, kc3 (by (simp only [qA, k8, pbL_len, uF, ka4, kb3, kb6, kb4, kb9, kb8, kc4, kc8, kc6, kd0] <;> omega))]) : p := h
abbrev cW (l : List Int) (m : Nat) (w : RS) : BC := .ds [D.sl (dI .u8 l) m, iD (((kT w) : Nat) : Int), iD (qC w)]
theorem u3z (l : List Int) (m : Nat) (u : RS) (hm : ka1 l = m) (hb : m ≤ 1000000) (hy : Byt l) (hu : kT u ≤ m) : Fun 91 [.c (.ptr 0 0)] (kD [(0, some (62, .ds [D.sl (dI .u8 l) m, iD (((kT u) : Nat) : Int), iD (qC u)]))]) 1 (sV .i64 (eH l u) (ka1 (eH l u))) (kD [(0, some (62, .ds [D.sl (dI .u8 l) m, iD (((kT (fZ l u)) : Nat) : Int), iD (qC (fZ l u))]))]) 1 := by
  refine Fun.mk (n := 24) Tryz.func91 rfl rfl (ka3 rfl) ?_
  intro cx hcx
  refine kG [.no] True [(0, rV 0 0)] [(0, some (62, .ds [db l m, uD (kT u), iD (qC u)]))] 1 trivial ?_
  refine kV [.no] True [(0, rV 0 0), (3, nV)] trivial ?_
  refine AW.seq ?_
  have hx1 : ((kT (kE 2 l u)) ≤ m) := (yG (zo) (zo))
  have hx2 : ((kK l u) ≤ 65535) := (qY (kL : Byt l) u)
  refine kG [.no, .call [0] (uV (kK l u)) [(0, some (62, .ds [db l m, uD (kT (kE 2 l u)), iD (qC (kE 2 l u))]))] 1 [] none, .no] _ [(0, rV 0 0), (3, nV), (4, uV (kK l u))] [(0, some (62, .ds [db l m, uD (kT (kE 2 l u)), iD (qC (kE 2 l u))]))] 1 (aL l m u zo zo (kL : Byt l) zo) ?_
  refine AW.block ?_
  refine AW.adoptS 3 1 3 rfl ?_
  refine kU 1 hcx (fun (x : {x : Nat × Nat × RS × List Int // match x with | (k, i, w, o) => (DcI l u k w o) ∧ (ka1 o = i * 1 ∧ i + k ≤ 65535) ∧ (kT w ≤ m)}) => match x with | ⟨(k, i, w, o), _⟩ => (⟨[(0, rV 0 0), (3, oV 2 0 i 1), (4, uV k)], [(0, some (62, (cW l m w))), (2, some (3, .ds (dI .i64 o)))], 3⟩ : ES)) (fun x => match x with | ⟨(k, i, w, o), _⟩ => k) ⟨(((kK l u) : Nat), (0 : Nat), ((kE 2 l u) : RS), (([] : List Int) : List Int)), ⟨(DcI.zero l u), ⟨rfl, by omega⟩, zo⟩⟩ [(2, 1)] (P := (kQ 0) ∧ (kQ 0) ∧ (kQ 0) ∧ (kM (kK l u : Int)) ∧ (kY [db l m, uD (kT (kE 2 l u)), iD (qC (kE 2 l u))]) ∧ (((dI .i64 ([] : List Int)) : List D) = ([] : List D))) zk ⟨rfl, rfl, rfl, rfl, rfl, (by rfl)⟩ ?_
  rintro ⟨⟨k, i, w, o⟩, hinv0⟩
  obtain ⟨hI, ho, hw⟩ : (DcI l u k w o) ∧ (ka1 o = i * 1 ∧ i + k ≤ 65535) ∧ (kT w ≤ m) := hinv0
  refine qV (l := [(0, rV 0 0), (3, oV 2 0 i 1), (4, uV k)]) (g := [(0, some (62, (cW l m w))), (2, some (3, .ds (dI .i64 o)))]) (nx := 3) rfl rfl rfl ?_
  refine AW.seq ?_
  by_cases hx3 : ((0 : Int) < ((k : Nat) : Int))
  · by_cases hx4 : ((qC w) = 0)
    · refine zr (.no :: .b true :: kJ 5 [.b true, .no]) [0, 3, 4, 15] [0, 2] ((((0 : Int) < (k : Int))) ∧ (((qC w) = 0))) [(0, rV 0 0), (3, oV 2 0 i 1), (4, uV k), (15, bV true)] [(0, some (62, (cW l m w))), (2, some (3, .ds (dI .i64 o)))] 3 ⟨zo, zo⟩ ?_
      refine u1 ?_
      refine AW.seq ?_
      refine AW.block ?_
      have hx5 : ((kT (kE 2 l w)) ≤ m) := (yG (zo) (zo))
      have hx6 : ((kK l w) ≤ 65535) := (qY (kL : Byt l) w)
      refine aC [.no, .no, .call [0] (uV (kK l w)) [(0, some (62, .ds [db l m, uD (kT (kE 2 l w)), iD (qC (kE 2 l w))]))] 1 [] none, .no, .ap none (i + 1) (dI .i64 (o ++ ([(kK l w : Int)] : List Int))), .no] ((_) ∧ ([uD (kK l w)].length = 1 * 1) ∧ (((dI .i64 o) : List D).length = i * 1) ∧ ((i + 1) * 8 ≤ 140737488355328) ∧ (i + 1 = (i + 1)) ∧ (((dI .i64 o) : List D) ++ [uD (kK l w)] = (dI .i64 (o ++ ([(kK l w : Int)] : List Int))))) [(0, rV 0 0), (3, oV 4 0 (i + 1) 1), (4, uV k)] [(0, some (62, .ds [db l m, uD (kT (kE 2 l w)), iD (qC (kE 2 l w))])), (4, some (3, .ds (dI .i64 (o ++ ([(kK l w : Int)] : List Int)))))] 5 ⟨(aL l m w zo zo (kL : Byt l) zo), vE, vE, zo, zo, (uK .i64 o ([(kK l w : Int)] : List Int))⟩ ?_
      refine uG [.no, .w, .no] (qB ((k : Int) - 1)) [(0, rV 0 0), (3, oV 4 0 (i + 1) 1), (4, iV (↑k - 1))] ⟨by omega, by omega⟩ ?_
      exact qH ⟨(((k - 1) : Nat), ((i + 1) : Nat), ((kE 2 l w) : RS), ((o ++ ([(kK l w : Int)] : List Int)) : List Int)), ⟨(hI.step zo zo), nT, zo⟩⟩ [(2, 4)] (P := (kQ 0) ∧ (kQ 0) ∧ (kQ (i + 1)) ∧ (((((k - 1) : Nat) : Int) : Int) = ((k : Int) - 1)) ∧ (kY [db l m, uD (kT (kE 2 l w)), iD (qC (kE 2 l w))]) ∧ (kY (dI .i64 (o ++ ([(kK l w : Int)] : List Int))))) zk ⟨rfl, rfl, rfl, zo, rfl, rfl⟩ (show (k - 1) < k from zo)
    · refine zr (.no :: .b true :: kJ 5 [.b false, .no]) [0, 3, 4, 15] [0, 2] ((((0 : Int) < (k : Int))) ∧ (¬ ((qC w) = 0))) [(0, rV 0 0), (3, oV 2 0 i 1), (4, uV k), (15, bV false)] [(0, some (62, (cW l m w))), (2, some (3, .ds (dI .i64 o)))] 3 ⟨zo, zo⟩ ?_
      refine zf ?_
      refine AW.exit ?_
      refine kG [.no, .no] True [(2, oV 2 0 i 1)] [(0, some (62, (cW l m w))), (2, some (3, .ds (dI .i64 o)))] 3 trivial ?_
      refine AW.freeze 2 (l' := [(2, sV .i64 o i)]) (g' := [(0, some (62, (cW l m w)))]) rfl (FzS.cons rfl (.e (.c (@FzC.own 2 ((dI .i64 o) : List D) 0 i 1 true ((dI .i64 o) : List D) nW vE))) FzS.nil) (qF rfl rfl FzG.nil) ?_
      obtain ⟨hz1, hz2⟩ := DcI.fin hI zo
      have hz3 : ka1 (eH l u) = i := by rw [hz2]; omega
      refine AW.ret ?_
      exact kB (.inr rfl) [] (P := (((dI .i64 (eH l u)) : List D) = (dI .i64 o)) ∧ (((ka1 (eH l u)) : Nat) = i) ∧ (([db l m, uD (kT (fZ l u)), iD (qC (fZ l u))] : List D) = [db l m, uD (kT w), iD (qC w)])) zk ⟨(by (rw [hz2]; done)), (by exact hz3), (by (rw [hz1]; done))⟩
  · refine zr [.no, .b false, .no, .no] [0, 3, 4, 15] [0, 2] (¬ ((0 : Int) < (k : Int))) [(0, rV 0 0), (3, oV 2 0 i 1), (4, uV k), (15, bV false)] [(0, some (62, (cW l m w))), (2, some (3, .ds (dI .i64 o)))] 3 zo ?_
    refine zf ?_
    refine AW.exit ?_
    refine kG [.no, .no] True [(2, oV 2 0 i 1)] [(0, some (62, (cW l m w))), (2, some (3, .ds (dI .i64 o)))] 3 trivial ?_
    refine AW.freeze 2 (l' := [(2, sV .i64 o i)]) (g' := [(0, some (62, (cW l m w)))]) rfl (FzS.cons rfl (.e (.c (@FzC.own 2 ((dI .i64 o) : List D) 0 i 1 true ((dI .i64 o) : List D) nW vE))) FzS.nil) (qF rfl rfl FzG.nil) ?_
    obtain ⟨hz1, hz2⟩ := DcI.fin hI zo
    have hz3 : ka1 (eH l u) = i := by rw [hz2]; omega
    refine AW.ret ?_
    exact kB (.inr rfl) [] (P := (((dI .i64 (eH l u)) : List D) = (dI .i64 o)) ∧ (((ka1 (eH l u)) : Nat) = i) ∧ (([db l m, uD (kT (fZ l u)), iD (qC (fZ l u))] : List D) = [db l m, uD (kT w), iD (qC w)])) zk ⟨(by (rw [hz2]; done)), (by exact hz3), (by (rw [hz1]; done))⟩
abbrev cV (l : List Int) (m : Nat) (w : RS) : BC := .ds [D.sl (dI .u8 l) m, iD (((kT w) : Nat) : Int), iD (qC w)]
theorem u3w (l : List Int) (m : Nat) (u : RS) (hm : ka1 l = m) (hb : m ≤ 1000000) (hy : Byt l) (hu : kT u ≤ m) : Fun 76 [.c (.ptr 0 0)] (kD [(0, some (62, .ds [D.sl (dI .u8 l) m, iD (((kT u) : Nat) : Int), iD (qC u)]))]) 1 (qX (kW (dD l u)) (ka1 (dD l u))) (kD [(0, some (62, .ds [D.sl (dI .u8 l) m, iD (((kT (aW l u)) : Nat) : Int), iD (qC (aW l u))]))]) 1 := by
  refine Fun.mk (n := 24) Tryz.func76 rfl rfl (ka3 rfl) ?_
  intro cx hcx
  refine kG [.no] True [(0, rV 0 0)] [(0, some (62, .ds [db l m, uD (kT u), iD (qC u)]))] 1 trivial ?_
  refine kV [.no] True [(0, rV 0 0), (3, nV)] trivial ?_
  refine AW.seq ?_
  have hx1 : ((kT (kE 2 l u)) ≤ m) := (yG (zo) (zo))
  have hx2 : ((kK l u) ≤ 65535) := (qY (kL : Byt l) u)
  refine kG [.no, .call [0] (uV (kK l u)) [(0, some (62, .ds [db l m, uD (kT (kE 2 l u)), iD (qC (kE 2 l u))]))] 1 [] none, .no] _ [(0, rV 0 0), (3, nV), (4, uV (kK l u))] [(0, some (62, .ds [db l m, uD (kT (kE 2 l u)), iD (qC (kE 2 l u))]))] 1 (aL l m u zo zo (kL : Byt l) zo) ?_
  refine AW.block ?_
  refine AW.adoptS 3 1 55 rfl ?_
  refine kU 1 hcx (fun (x : {x : Nat × Nat × RS × List (List Int) // match x with | (k, i, w, o) => (MzI l u k w o) ∧ (ka1 o = i * 1 ∧ i + k ≤ 65535) ∧ (kT w ≤ m)}) => match x with | ⟨(k, i, w, o), _⟩ => (⟨[(0, rV 0 0), (3, oV 2 0 i 1), (4, uV k)], [(0, some (62, (cV l m w))), (2, some (55, .ds (kW o)))], 3⟩ : ES)) (fun x => match x with | ⟨(k, i, w, o), _⟩ => k) ⟨(((kK l u) : Nat), (0 : Nat), ((kE 2 l u) : RS), (([] : List (List Int)) : List (List Int))), ⟨(MzI.zero l u), ⟨rfl, by omega⟩, zo⟩⟩ [(2, 1)] (P := (kQ 0) ∧ (kQ 0) ∧ (kQ 0) ∧ (kM (kK l u : Int)) ∧ (kY [db l m, uD (kT (kE 2 l u)), iD (qC (kE 2 l u))]) ∧ (((kW ([] : List (List Int))) : List D) = ([] : List D))) zk ⟨rfl, rfl, rfl, rfl, rfl, (by rfl)⟩ ?_
  rintro ⟨⟨k, i, w, o⟩, hinv0⟩
  obtain ⟨hI, ho, hw⟩ : (MzI l u k w o) ∧ (ka1 o = i * 1 ∧ i + k ≤ 65535) ∧ (kT w ≤ m) := hinv0
  refine qV (l := [(0, rV 0 0), (3, oV 2 0 i 1), (4, uV k)]) (g := [(0, some (62, (cV l m w))), (2, some (55, .ds (kW o)))]) (nx := 3) rfl rfl rfl ?_
  refine AW.seq ?_
  by_cases hx3 : ((0 : Int) < ((k : Nat) : Int))
  · by_cases hx4 : ((qC w) = 0)
    · refine zr (.no :: .b true :: kJ 5 [.b true, .no]) [0, 3, 4, 15] [0, 2] ((((0 : Int) < (k : Int))) ∧ (((qC w) = 0))) [(0, rV 0 0), (3, oV 2 0 i 1), (4, uV k), (15, bV true)] [(0, some (62, (cV l m w))), (2, some (55, .ds (kW o)))] 3 ⟨zo, zo⟩ ?_
      refine u1 ?_
      refine AW.seq ?_
      refine AW.block ?_
      have hx5 : ((kT (fZ l w)) ≤ m) := (k5z (zo) (zo))
      have hx6 : ((ka1 (eH l w)) ≤ 65535) := (k0g (kL : Byt l) w)
      refine aC [.no, .no, .call [0] (sV .i64 (eH l w) (ka1 (eH l w))) [(0, some (62, .ds [db l m, uD (kT (fZ l w)), iD (qC (fZ l w))]))] 1 [] none, .no, .ap none (i + 1) (kW (o ++ ([(eH l w)] : List (List Int)))), .no] ((_) ∧ ([dl (eH l w) (ka1 (eH l w))].length = 1 * 1) ∧ (((kW o) : List D).length = i * 1) ∧ ((i + 1) * 24 ≤ 140737488355328) ∧ (i + 1 = (i + 1)) ∧ (((kW o) : List D) ++ [dl (eH l w) (ka1 (eH l w))] = (kW (o ++ ([(eH l w)] : List (List Int)))))) [(0, rV 0 0), (3, oV 4 0 (i + 1) 1), (4, uV k)] [(0, some (62, .ds [db l m, uD (kT (fZ l w)), iD (qC (fZ l w))])), (4, some (55, .ds (kW (o ++ ([(eH l w)] : List (List Int))))))] 5 ⟨(u3z l m w zo zo (kL : Byt l) zo), vE, vE, zo, zo, (i5 o (eH l w) (ka1 (eH l w)) (by rfl))⟩ ?_
      refine uG [.no, .w, .no] (qB ((k : Int) - 1)) [(0, rV 0 0), (3, oV 4 0 (i + 1) 1), (4, iV (↑k - 1))] ⟨by omega, by omega⟩ ?_
      exact qH ⟨(((k - 1) : Nat), ((i + 1) : Nat), ((fZ l w) : RS), ((o ++ ([(eH l w)] : List (List Int))) : List (List Int))), ⟨(hI.step zo zo), nT, zo⟩⟩ [(2, 4)] (P := (kQ 0) ∧ (kQ 0) ∧ (kQ (i + 1)) ∧ (((((k - 1) : Nat) : Int) : Int) = ((k : Int) - 1)) ∧ (kY [db l m, uD (kT (fZ l w)), iD (qC (fZ l w))]) ∧ (kY (kW (o ++ ([(eH l w)] : List (List Int)))))) zk ⟨rfl, rfl, rfl, zo, rfl, rfl⟩ (show (k - 1) < k from zo)
    · refine zr (.no :: .b true :: kJ 5 [.b false, .no]) [0, 3, 4, 15] [0, 2] ((((0 : Int) < (k : Int))) ∧ (¬ ((qC w) = 0))) [(0, rV 0 0), (3, oV 2 0 i 1), (4, uV k), (15, bV false)] [(0, some (62, (cV l m w))), (2, some (55, .ds (kW o)))] 3 ⟨zo, zo⟩ ?_
      refine zf ?_
      refine AW.exit ?_
      refine kG [.no, .no] True [(2, oV 2 0 i 1)] [(0, some (62, (cV l m w))), (2, some (55, .ds (kW o)))] 3 trivial ?_
      refine AW.freeze 2 (l' := [(2, qX (kW o) i)]) (g' := [(0, some (62, (cV l m w)))]) rfl (FzS.cons rfl (.e (.c (@FzC.own 2 ((kW o) : List D) 0 i 1 true ((kW o) : List D) nW vE))) FzS.nil) (qF rfl rfl FzG.nil) ?_
      obtain ⟨hz1, hz2⟩ := MzI.fin hI zo
      have hz3 : ka1 (dD l u) = i := by rw [hz2]; omega
      refine AW.ret ?_
      exact kB (.inr rfl) [] (P := (((kW (dD l u)) : List D) = (kW o)) ∧ (((ka1 (dD l u)) : Nat) = i) ∧ (([db l m, uD (kT (aW l u)), iD (qC (aW l u))] : List D) = [db l m, uD (kT w), iD (qC w)])) zk ⟨(by (rw [hz2]; done)), (by exact hz3), (by (rw [hz1]; done))⟩
  · refine zr [.no, .b false, .no, .no] [0, 3, 4, 15] [0, 2] (¬ ((0 : Int) < (k : Int))) [(0, rV 0 0), (3, oV 2 0 i 1), (4, uV k), (15, bV false)] [(0, some (62, (cV l m w))), (2, some (55, .ds (kW o)))] 3 zo ?_
    refine zf ?_
    refine AW.exit ?_
    refine kG [.no, .no] True [(2, oV 2 0 i 1)] [(0, some (62, (cV l m w))), (2, some (55, .ds (kW o)))] 3 trivial ?_
    refine AW.freeze 2 (l' := [(2, qX (kW o) i)]) (g' := [(0, some (62, (cV l m w)))]) rfl (FzS.cons rfl (.e (.c (@FzC.own 2 ((kW o) : List D) 0 i 1 true ((kW o) : List D) nW vE))) FzS.nil) (qF rfl rfl FzG.nil) ?_
    obtain ⟨hz1, hz2⟩ := MzI.fin hI zo
    have hz3 : ka1 (dD l u) = i := by rw [hz2]; omega
    refine AW.ret ?_
    exact kB (.inr rfl) [] (P := (((kW (dD l u)) : List D) = (kW o)) ∧ (((ka1 (dD l u)) : Nat) = i) ∧ (([db l m, uD (kT (aW l u)), iD (qC (aW l u))] : List D) = [db l m, uD (kT w), iD (qC w)])) zk ⟨(by (rw [hz2]; done)), (by exact hz3), (by (rw [hz1]; done))⟩
abbrev bD (l : List Int) (w : RS) := eX l (aW l (yD l (kE 2 l w)))
abbrev cU (l : List Int) (m : Nat) (w : RS) : BC := .ds [D.sl (dI .u8 l) m, iD (((kT w) : Nat) : Int), iD (qC w)]
abbrev wN (l : List Int) (m : Nat) (w : RS) : BC := .ds [D.sl (dI .u8 l) m, iD (((kT (yD l (aW l (yD l (kE 2 l w))))) : Nat) : Int), iD (qC (yD l (aW l (yD l (kE 2 l w)))))]
@[reducible] def q1M (x : List Bx) : E1 := (.c (.d (D.sl (kX x) (ka1 x))))
theorem k9l (l : List Int) (m : Nat) (u : RS) (hm : ka1 l = m) (hb : m ≤ 1000000) (hy : Byt l) (hu : kT u ≤ m) : Fun 53 [.c (.ptr 0 0)] (kD [(0, some (62, .ds [D.sl (dI .u8 l) m, iD (((kT u) : Nat) : Int), iD (qC u)]))]) 1 (.e (q1M (vD l u))) (kD [(0, some (62, .ds [D.sl (dI .u8 l) m, iD (((kT (mM l u)) : Nat) : Int), iD (qC (mM l u))]))]) 1 := by
  refine Fun.mk (n := 36) Tryz.func53 rfl rfl (ka3 rfl) ?_
  intro cx hcx
  refine kG [.no] True [(0, rV 0 0)] [(0, some (62, .ds [db l m, uD (kT u), iD (qC u)]))] 1 trivial ?_
  refine kV [.no] True [(0, rV 0 0), (3, nV)] trivial ?_
  refine AW.seq ?_
  have hx1 : ((kT (kE 2 l u)) ≤ m) := (yG (zo) (zo))
  have hx2 : ((kK l u) ≤ 65535) := (qY (kL : Byt l) u)
  refine kG [.no, .call [0] (uV (kK l u)) [(0, some (62, .ds [db l m, uD (kT (kE 2 l u)), iD (qC (kE 2 l u))]))] 1 [] none, .no] _ [(0, rV 0 0), (3, nV), (4, uV (kK l u))] [(0, some (62, .ds [db l m, uD (kT (kE 2 l u)), iD (qC (kE 2 l u))]))] 1 (aL l m u zo zo (kL : Byt l) zo) ?_
  refine AW.block ?_
  refine AW.adoptS 3 4 53 rfl ?_
  refine kU 1 hcx (fun (x : {x : Nat × Nat × RS × List Bx // match x with | (k, i, w, o) => (DbI l u k w o) ∧ (ka1 o = i * 1 ∧ i + k ≤ 65535) ∧ (kT w ≤ m)}) => match x with | ⟨(k, i, w, o), _⟩ => (⟨[(0, rV 0 0), (3, oV 2 0 i 4), (4, uV k)], [(0, some (62, (cU l m w))), (2, some (53, .ds (kX o)))], 3⟩ : ES)) (fun x => match x with | ⟨(k, i, w, o), _⟩ => k) ⟨(((kK l u) : Nat), (0 : Nat), ((kE 2 l u) : RS), (([] : List Bx) : List Bx)), ⟨(DbI.zero l u), ⟨rfl, by omega⟩, zo⟩⟩ [(2, 1)] (P := (kQ 0) ∧ (kQ 0) ∧ (kQ 0) ∧ (kM (kK l u : Int)) ∧ (kY [db l m, uD (kT (kE 2 l u)), iD (qC (kE 2 l u))]) ∧ (((kX ([] : List Bx)) : List D) = ([] : List D))) zk ⟨rfl, rfl, rfl, rfl, rfl, (by rfl)⟩ ?_
  rintro ⟨⟨k, i, w, o⟩, hinv0⟩
  obtain ⟨hI, ho, hw⟩ : (DbI l u k w o) ∧ (ka1 o = i * 1 ∧ i + k ≤ 65535) ∧ (kT w ≤ m) := hinv0
  refine qV (l := [(0, rV 0 0), (3, oV 2 0 i 4), (4, uV k)]) (g := [(0, some (62, (cU l m w))), (2, some (53, .ds (kX o)))]) (nx := 3) rfl rfl rfl ?_
  refine AW.seq ?_
  by_cases hx3 : ((0 : Int) < ((k : Nat) : Int))
  · by_cases hx4 : ((qC w) = 0)
    · refine zr (.no :: .b true :: kJ 5 [.b true, .no]) [0, 3, 4, 16] [0, 2] ((((0 : Int) < (k : Int))) ∧ (((qC w) = 0))) [(0, rV 0 0), (3, oV 2 0 i 4), (4, uV k), (16, bV true)] [(0, some (62, (cU l m w))), (2, some (53, .ds (kX o)))] 3 ⟨zo, zo⟩ ?_
      refine u1 ?_
      refine AW.seq ?_
      refine AW.block ?_
      have hx5 : ((kT (kE 2 l w)) ≤ m) := (yG (zo) (zo))
      have hx6 : ((kK l w) ≤ 65535) := (qY (kL : Byt l) w)
      refine kG [.no, .call [0] (uV (kK l w)) [(0, some (62, .ds [db l m, uD (kT (kE 2 l w)), iD (qC (kE 2 l w))]))] 1 [] none, .no, .no, .no] _ [(0, rV 0 0), (3, oV 2 0 i 4), (4, uV k), (5, rV 3 0)] [(0, some (62, .ds [db l m, uD (kT (kE 2 l w)), iD (qC (kE 2 l w))])), (2, some (53, .ds (kX o))), (3, some (53, .ds [uD (kK l w), k9, k9, k9]))] 4 (aL l m w zo zo (kL : Byt l) zo) ?_
      have hx7 : ((kT (yD l (kE 2 l w))) ≤ m) := (oP (zo) (zo))
      have hx8 : ((ka1 (eX l (kE 2 l w))) = ((bP l (kE 2 l w)) * 2)) := (eA (kL : Byt l) (kE 2 l w)).1
      have hx9 : ((bP l (kE 2 l w)) ≤ 65535) := (eA (kL : Byt l) (kE 2 l w)).2
      refine kG [.no, .call [0] (.e (.agg [.d (dl (eX l (kE 2 l w)) (bP l (kE 2 l w)))])) [(0, some (62, .ds [db l m, uD (kT (yD l (kE 2 l w))), iD (qC (yD l (kE 2 l w)))]))] 1 [] none, .no, .no] _ [(0, rV 0 0), (3, oV 2 0 i 4), (4, uV k), (5, rV 3 0)] [(0, some (62, .ds [db l m, uD (kT (yD l (kE 2 l w))), iD (qC (yD l (kE 2 l w)))])), (2, some (53, .ds (kX o))), (3, some (53, .ds [uD (kK l w), dl (eX l (kE 2 l w)) (bP l (kE 2 l w)), k9, k9]))] 4 (u1f l m (kE 2 l w) zo zo (kL : Byt l) zo) ?_
      have hx10 : ((kT (aW l (yD l (kE 2 l w)))) ≤ m) := (k3l (zo) (zo))
      have hx11 : ((ka1 (dD l (yD l (kE 2 l w)))) ≤ 65535) := (k01 (kL : Byt l) (yD l (kE 2 l w)))
      have hx12 : (MsW (dD l (yD l (kE 2 l w)))) := (u0h (kL : Byt l) (yD l (kE 2 l w)))
      refine kG [.no, .call [0] (qX (kW (dD l (yD l (kE 2 l w)))) (ka1 (dD l (yD l (kE 2 l w))))) [(0, some (62, .ds [db l m, iD (kT (aW l (yD l (kE 2 l w))) : Int), iD (qC (aW l (yD l (kE 2 l w))))]))] 1 [] none, .no, .no] _ [(0, rV 0 0), (3, oV 2 0 i 4), (4, uV k), (5, rV 3 0)] [(0, some (62, .ds [db l m, iD (kT (aW l (yD l (kE 2 l w))) : Int), iD (qC (aW l (yD l (kE 2 l w))))])), (2, some (53, .ds (kX o))), (3, some (53, .ds [uD (kK l w), dl (eX l (kE 2 l w)) (bP l (kE 2 l w)), D.sl (kW (dD l (yD l (kE 2 l w)))) (ka1 (dD l (yD l (kE 2 l w)))), k9]))] 4 (u3w l m (yD l (kE 2 l w)) zo zo (kL : Byt l) zo) ?_
      have hx13 : ((kT (yD l (aW l (yD l (kE 2 l w))))) ≤ m) := (oP (zo) (zo))
      have hx14 : ((ka1 (bD l w)) = ((bP l (aW l (yD l (kE 2 l w)))) * 2)) := (eA (kL : Byt l) (aW l (yD l (kE 2 l w)))).1
      have hx15 : ((bP l (aW l (yD l (kE 2 l w)))) ≤ 65535) := (eA (kL : Byt l) (aW l (yD l (kE 2 l w)))).2
      refine kG [.no, .call [0] (.e (.agg [.d (dl (bD l w) (bP l (aW l (yD l (kE 2 l w)))))])) [(0, some (62, (wN l m w)))] 1 [] none, .no, .no] _ [(0, rV 0 0), (3, oV 2 0 i 4), (4, uV k), (5, rV 3 0)] [(0, some (62, (wN l m w))), (2, some (53, .ds (kX o))), (3, some (53, .ds [uD (kK l w), dl (eX l (kE 2 l w)) (bP l (kE 2 l w)), D.sl (kW (dD l (yD l (kE 2 l w)))) (ka1 (dD l (yD l (kE 2 l w)))), dl (bD l w) (bP l (aW l (yD l (kE 2 l w))))]))] 4 (u1f l m (aW l (yD l (kE 2 l w))) zo zo (kL : Byt l) zo) ?_
      refine aC [.no, .no, .no, .ap none (i + 1) (kX (o ++ ([(aQ (kK l w : Int) (eX l (kE 2 l w)) (bP l (kE 2 l w)) (dD l (yD l (kE 2 l w))) (bD l w) (bP l (aW l (yD l (kE 2 l w)))))] : List Bx))), .no] (([uD (kK l w), dl (eX l (kE 2 l w)) (bP l (kE 2 l w)), D.sl (kW (dD l (yD l (kE 2 l w)))) (ka1 (dD l (yD l (kE 2 l w)))), dl (bD l w) (bP l (aW l (yD l (kE 2 l w))))].length = 1 * 4) ∧ (((kX o) : List D).length = i * 4) ∧ ((i + 1) * 80 ≤ 140737488355328) ∧ (i + 1 = (i + 1)) ∧ (((kX o) : List D) ++ [uD (kK l w), dl (eX l (kE 2 l w)) (bP l (kE 2 l w)), D.sl (kW (dD l (yD l (kE 2 l w)))) (ka1 (dD l (yD l (kE 2 l w)))), dl (bD l w) (bP l (aW l (yD l (kE 2 l w))))] = (kX (o ++ ([(aQ (kK l w : Int) (eX l (kE 2 l w)) (bP l (kE 2 l w)) (dD l (yD l (kE 2 l w))) (bD l w) (bP l (aW l (yD l (kE 2 l w)))))] : List Bx))))) [(0, rV 0 0), (3, oV 5 0 (i + 1) 4), (4, uV k)] [(0, some (62, (wN l m w))), (5, some (53, .ds (kX (o ++ ([(aQ (kK l w : Int) (eX l (kE 2 l w)) (bP l (kE 2 l w)) (dD l (yD l (kE 2 l w))) (bD l w) (bP l (aW l (yD l (kE 2 l w)))))] : List Bx)))))] 6 ⟨vE, vE, zo, zo, (p9 o (kK l w : Int) (eX l (kE 2 l w)) (bP l (kE 2 l w)) (dD l (yD l (kE 2 l w))) (ka1 (dD l (yD l (kE 2 l w)))) (bD l w) (bP l (aW l (yD l (kE 2 l w)))) (by rfl))⟩ ?_
      refine uG [.no, .w, .no] (qB ((k : Int) - 1)) [(0, rV 0 0), (3, oV 5 0 (i + 1) 4), (4, iV (↑k - 1))] ⟨by omega, by omega⟩ ?_
      exact qH ⟨(((k - 1) : Nat), ((i + 1) : Nat), ((yD l (aW l (yD l (kE 2 l w)))) : RS), ((o ++ ([(aQ (kK l w : Int) (eX l (kE 2 l w)) (bP l (kE 2 l w)) (dD l (yD l (kE 2 l w))) (bD l w) (bP l (aW l (yD l (kE 2 l w)))))] : List Bx)) : List Bx)), ⟨(hI.step zo zo), nT, zo⟩⟩ [(2, 5)] (P := (kQ 0) ∧ (kQ 0) ∧ (kQ (i + 1)) ∧ (((((k - 1) : Nat) : Int) : Int) = ((k : Int) - 1)) ∧ (kY [db l m, iD (((kT (yD l (aW l (yD l (kE 2 l w))))) : Nat) : Int), iD (qC (yD l (aW l (yD l (kE 2 l w)))))]) ∧ (kY (kX (o ++ ([(aQ (kK l w : Int) (eX l (kE 2 l w)) (bP l (kE 2 l w)) (dD l (yD l (kE 2 l w))) (bD l w) (bP l (aW l (yD l (kE 2 l w)))))] : List Bx))))) zk ⟨rfl, rfl, rfl, zo, rfl, rfl⟩ (show (k - 1) < k from zo)
    · refine zr (.no :: .b true :: kJ 5 [.b false, .no]) [0, 3, 4, 16] [0, 2] ((((0 : Int) < (k : Int))) ∧ (¬ ((qC w) = 0))) [(0, rV 0 0), (3, oV 2 0 i 4), (4, uV k), (16, bV false)] [(0, some (62, (cU l m w))), (2, some (53, .ds (kX o)))] 3 ⟨zo, zo⟩ ?_
      refine zf ?_
      refine AW.exit ?_
      refine kG [.no, .no] True [(2, oV 2 0 i 4)] [(0, some (62, (cU l m w))), (2, some (53, .ds (kX o)))] 3 trivial ?_
      refine AW.freeze 2 (l' := [(2, .e (u2 o i))]) (g' := [(0, some (62, (cU l m w)))]) rfl (FzS.cons rfl (.e (.c (@FzC.own 2 ((kX o) : List D) 0 i 4 true ((kX o) : List D) nU vE))) FzS.nil) (qF rfl rfl FzG.nil) ?_
      obtain ⟨hz1, hz2⟩ := DbI.fin hI zo
      have hz3 : ka1 (vD l u) = i := by rw [hz2]; omega
      refine AW.ret ?_
      exact kB (.inr rfl) [] (P := (((kX (vD l u)) : List D) = (kX o)) ∧ (((ka1 (vD l u)) : Nat) = i) ∧ (([db l m, uD (kT (mM l u)), iD (qC (mM l u))] : List D) = [db l m, uD (kT w), iD (qC w)])) zk ⟨(by (rw [hz2]; done)), (by exact hz3), (by (rw [hz1]; done))⟩
  · refine zr [.no, .b false, .no, .no] [0, 3, 4, 16] [0, 2] (¬ ((0 : Int) < (k : Int))) [(0, rV 0 0), (3, oV 2 0 i 4), (4, uV k), (16, bV false)] [(0, some (62, (cU l m w))), (2, some (53, .ds (kX o)))] 3 zo ?_
    refine zf ?_
    refine AW.exit ?_
    refine kG [.no, .no] True [(2, oV 2 0 i 4)] [(0, some (62, (cU l m w))), (2, some (53, .ds (kX o)))] 3 trivial ?_
    refine AW.freeze 2 (l' := [(2, .e (u2 o i))]) (g' := [(0, some (62, (cU l m w)))]) rfl (FzS.cons rfl (.e (.c (@FzC.own 2 ((kX o) : List D) 0 i 4 true ((kX o) : List D) nU vE))) FzS.nil) (qF rfl rfl FzG.nil) ?_
    obtain ⟨hz1, hz2⟩ := DbI.fin hI zo
    have hz3 : ka1 (vD l u) = i := by rw [hz2]; omega
    refine AW.ret ?_
    exact kB (.inr rfl) [] (P := (((kX (vD l u)) : List D) = (kX o)) ∧ (((ka1 (vD l u)) : Nat) = i) ∧ (([db l m, uD (kT (mM l u)), iD (qC (mM l u))] : List D) = [db l m, uD (kT w), iD (qC w)])) zk ⟨(by (rw [hz2]; done)), (by exact hz3), (by (rw [hz1]; done))⟩
end Go.Proofs.YtdbjebdomdnbkaaGreat
