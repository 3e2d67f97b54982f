/- What is read in a row. No statement is proved here. -/
import Derived.Test.YtdbjebdomdnbkaaZD11B
namespace Go.Proofs.Ytdbjebdomdnbkaa
open Go.ChangeShapes Go.WideShapes Go.ChangeAt Go.RowKit
open List renaming append_nil → kd0, drop_zero → kd1, length → ka1, length_append → ka3, length_cons → kb1, length_drop → kb2, length_map → kc3, length_nil → kb5, length_replicate → kb6, length_reverse → kc7, length_set → kc2, length_take → kb3, take_of_length_le → kc4
open Nat renaming le_of_ble_eq_true → ka4, le_trans → ke9, mul_one → kc6
set_option linter.unusedVariables false
set_option linter.unusedSimpArgs false
/-! chapter 11: what is read in a row -/
set_option maxHeartbeats 4000000
set_option maxRecDepth 100000
def oC (f : RS → RS) : Nat → RS → RS
  | 0, u => u
  | n + 1, u => if qA u = 0 then oC f n (f u) else u
def itV {α : Type} (f : RS → RS) (v : RS → List α) : Nat → RS → List α
  | 0, _ => []
  | n + 1, u => if qA u = 0 then v u ++ itV f v n (f u) else []
theorem mB {f : RS → RS} {n : Nat} {u : RS} (h : qA u = 0) : oC f (n + 1) u = oC f n (f u) := if_pos h
theorem k0l {f : RS → RS} {n : Nat} {u : RS} (h : ¬ qA u = 0) : oC f n u = u := by
  cases n with
  | zero => rfl
  | succ n => exact if_neg h
theorem k0k {α : Type} {f : RS → RS} {v : RS → List α} {n : Nat} {u : RS} (h : qA u = 0) : itV f v (n + 1) u = v u ++ itV f v n (f u) := if_pos h
theorem k4d {α : Type} {f : RS → RS} {v : RS → List α} {n : Nat} {u : RS} (h : ¬ qA u = 0) : itV f v n u = [] := by
  cases n with
  | zero => rfl
  | succ n => exact if_neg h
theorem mC {f : RS → RS} {m : Nat} (hf : ∀ u, kV u ≤ m → kV (f u) ≤ m) : ∀ (n : Nat) (u : RS), kV u ≤ m → kV (oC f n u) ≤ m
  | 0, u, h => h
  | n + 1, u, h => by
    by_cases hq : qA u = 0
    · rw [mB hq]; exact mC hf n _ (hf u h)
    · rw [k0l hq]; exact h
theorem gN {α : Type} {f : RS → RS} {v : RS → List α} {s : Nat} (hv : ∀ u, (v u).length = s) : ∀ (n : Nat) (u : RS), ∃ c, c ≤ n ∧ (itV f v n u).length = c * s
  | 0, u => ⟨0, Nat.le_refl _, by rw [Nat.zero_mul]; rfl⟩
  | n + 1, u => by
    by_cases hq : qA u = 0
    · obtain ⟨c, h1, h2⟩ := gN hv n (f u)
      exact ⟨c + 1, by omega, by rw [k0k hq, ka3, hv, h2, Nat.succ_mul]; omega⟩
    · exact ⟨0, by omega, by rw [k4d hq, Nat.zero_mul]; rfl⟩
theorem rI {α : Type} {f : RS → RS} {v : RS → List α} {p : α → Prop} (hv : ∀ u, ∀ x ∈ v u, p x) : ∀ (n : Nat) (u : RS), ∀ x ∈ itV f v n u, p x
  | 0, u, x, h => by cases h
  | n + 1, u, x, h => by
    by_cases hq : qA u = 0
    · rw [k0k hq] at h
      rcases List.mem_append.1 h with h | h
      · exact hv u x h
      · exact rI hv n (f u) x h
    · rw [k4d hq] at h; cases h
def ItI {α : Type} (f : RS → RS) (v : RS → List α) (n0 : Nat) (u0 : RS) (k : Nat) (w : RS) (o : List α) : Prop := oC f n0 u0 = oC f k w ∧ itV f v n0 u0 = o ++ itV f v k w
theorem ItI.zero {α : Type} (f : RS → RS) (v : RS → List α) (n0 : Nat) (u0 : RS) : ItI f v n0 u0 n0 u0 [] := ⟨rfl, rfl⟩
theorem ItI.step {α : Type} {f : RS → RS} {v : RS → List α} {n0 : Nat} {u0 : RS} {k : Nat} {w : RS} {o : List α} (h : ItI f v n0 u0 k w o) (hk : 0 < k) (hq : qA w = 0) : ItI f v n0 u0 (k - 1) (f w) (o ++ v w) := by
  obtain ⟨k, rfl⟩ : ∃ j, k = j + 1 := ⟨k - 1, by omega⟩
  refine ⟨by rw [h.1, mB hq]; rfl, ?_⟩
  rw [h.2, k0k hq, List.append_assoc]; rfl
theorem ItI.fin {α : Type} {f : RS → RS} {v : RS → List α} {n0 : Nat} {u0 : RS} {k : Nat} {w : RS} {o : List α} (h : ItI f v n0 u0 k w o) (hk : k = 0 ∨ ¬ qA w = 0) : oC f n0 u0 = w ∧ itV f v n0 u0 = o := by
  rcases hk with rfl | hk
  · exact ⟨h.1, by rw [h.2]; exact kd0 _⟩
  · exact ⟨by rw [h.1, k0l hk], by rw [h.2, k4d hk, kd0]⟩
def seX (l : List Int) (w : RS) : List Int := [yG l w, yG l (kG 4 l w)]
def seF (l : List Int) (w : RS) : RS := kG 4 l (kG 4 l w)
def yE (l : List Int) (u : RS) : RS := oC (seF l) (k9 l u) (kG 2 l u)
def f8 (l : List Int) (u : RS) : List Int := itV (seF l) (seX l) (k9 l u) (kG 2 l u)
def cB (l : List Int) (u : RS) : Nat := ka1 (f8 l u) / 2
def SeI (l : List Int) (u : RS) (k : Nat) (w : RS) (o : List Int) : Prop := ItI (seF l) (seX l) (k9 l u) (kG 2 l u) k w o
theorem SeI.zero (l : List Int) (u : RS) : SeI l u (k9 l u) (kG 2 l u) [] := ItI.zero _ _ _ _
theorem SeI.step {l : List Int} {u : RS} {k : Nat} {w : RS} {o : List Int} (h : SeI l u k w o) (hk : 0 < k) (hq : qA w = 0) : SeI l u (k - 1) (kG 4 l (kG 4 l w)) (o ++ [yG l w, yG l (kG 4 l w)]) := ItI.step h hk hq
theorem SeI.fin {l : List Int} {u : RS} {k : Nat} {w : RS} {o : List Int} (h : SeI l u k w o) (hk : k = 0 ∨ ¬ qA w = 0) : yE l u = w ∧ f8 l u = o := ItI.fin h hk
theorem k7e {l : List Int} {u : RS} {o : List Int} {i : Nat} (h : f8 l u = o) (ho : ka1 o = i * 2) : cB l u = i := by unfold cB; rw [h, ho]; omega
theorem u1f {m : Nat} {l : List Int} (hm : l.length = m) (u : RS) (h : kV u ≤ m) : kV (seF l u) ≤ m := yF hm (yF hm h)
theorem pP {m : Nat} {l : List Int} {u : RS} (hm : l.length = m) (hu : kV u ≤ m) : kV (yE l u) ≤ m := mC (u1f hm) _ _ (yF hm hu)
theorem eU {l : List Int} (hy : Byt l) (u : RS) : ka1 (f8 l u) = cB l u * 2 ∧ cB l u ≤ 65535 := by
  obtain ⟨c, h1, h2⟩ := gN (f := seF l) (v := seX l) (s := 2) (fun _ => rfl) (k9 l u) (kG 2 l u)
  have h3 := vA hy u
  have h4 : cB l u = c := k7e rfl h2
  rw [h4]; exact ⟨h2, by omega⟩
def dcX (l : List Int) (w : RS) : List Int := [((k9 l w : Nat) : Int)]
def hC (l : List Int) (u : RS) : RS := oC (kG 2 l) (k9 l u) (kG 2 l u)
def fP (l : List Int) (u : RS) : List Int := itV (kG 2 l) (dcX l) (k9 l u) (kG 2 l u)
def DcI (l : List Int) (u : RS) (k : Nat) (w : RS) (o : List Int) : Prop := ItI (kG 2 l) (dcX l) (k9 l u) (kG 2 l u) k w o
theorem DcI.zero (l : List Int) (u : RS) : DcI l u (k9 l u) (kG 2 l u) [] := ItI.zero _ _ _ _
theorem DcI.step {l : List Int} {u : RS} {k : Nat} {w : RS} {o : List Int} (h : DcI l u k w o) (hk : 0 < k) (hq : qA w = 0) : DcI l u (k - 1) (kG 2 l w) (o ++ [((k9 l w : Nat) : Int)]) := ItI.step h hk hq
theorem DcI.fin {l : List Int} {u : RS} {k : Nat} {w : RS} {o : List Int} (h : DcI l u k w o) (hk : k = 0 ∨ ¬ qA w = 0) : hC l u = w ∧ fP l u = o := ItI.fin h hk
theorem k69 {m : Nat} {l : List Int} {u : RS} (hm : l.length = m) (hu : kV u ≤ m) : kV (hC l u) ≤ m := mC (fun _ h => yF hm h) _ _ (yF hm hu)
theorem k0u {l : List Int} (hy : Byt l) (u : RS) : ka1 (fP l u) ≤ 65535 := by
  obtain ⟨c, h1, h2⟩ := gN (f := kG 2 l) (v := dcX l) (s := 1) (fun _ => rfl) (k9 l u) (kG 2 l u)
  have h3 := vA hy u
  have h4 : ka1 (fP l u) = c * 1 := h2
  omega
def mzX (l : List Int) (w : RS) : List (List Int) := [fP l w]
def aX (l : List Int) (u : RS) : RS := oC (hC l) (k9 l u) (kG 2 l u)
def dW (l : List Int) (u : RS) : List (List Int) := itV (hC l) (mzX l) (k9 l u) (kG 2 l u)
def MzI (l : List Int) (u : RS) (k : Nat) (w : RS) (o : List (List Int)) : Prop := ItI (hC l) (mzX l) (k9 l u) (kG 2 l u) k w o
theorem MzI.zero (l : List Int) (u : RS) : MzI l u (k9 l u) (kG 2 l u) [] := ItI.zero _ _ _ _
theorem MzI.step {l : List Int} {u : RS} {k : Nat} {w : RS} {o : List (List Int)} (h : MzI l u k w o) (hk : 0 < k) (hq : qA w = 0) : MzI l u (k - 1) (hC l w) (o ++ [fP l w]) := ItI.step h hk hq
theorem MzI.fin {l : List Int} {u : RS} {k : Nat} {w : RS} {o : List (List Int)} (h : MzI l u k w o) (hk : k = 0 ∨ ¬ qA w = 0) : aX l u = w ∧ dW l u = o := ItI.fin h hk
theorem k3w {m : Nat} {l : List Int} {u : RS} (hm : l.length = m) (hu : kV u ≤ m) : kV (aX l u) ≤ m := mC (fun _ h => k69 hm h) _ _ (yF hm hu)
theorem k0e {l : List Int} (hy : Byt l) (u : RS) : ka1 (dW l u) ≤ 65535 := by
  obtain ⟨c, h1, h2⟩ := gN (f := hC l) (v := mzX l) (s := 1) (fun _ => rfl) (k9 l u) (kG 2 l u)
  have h3 := vA hy u
  have h4 : ka1 (dW l u) = c * 1 := h2
  omega
theorem u01 {l : List Int} (hy : Byt l) (u : RS) : MsW (dW l u) := rI (p := fun x => ka1 x ≤ 1000000) (fun w x hx => by
  rw [List.mem_singleton.1 hx]; have := k0u hy w; omega) _ _
def dbX (l : List Int) (w : RS) : List Bx := [vX ((k9 l w : Nat) : Int) (f8 l (kG 2 l w)) (cB l (kG 2 l w)) (dW l (yE l (kG 2 l w))) (f8 l (aX l (yE l (kG 2 l w)))) (cB l (aX l (yE l (kG 2 l w))))]
def dbF (l : List Int) (w : RS) : RS := yE l (aX l (yE l (kG 2 l w)))
def oM (l : List Int) (u : RS) : RS := oC (dbF l) (k9 l u) (kG 2 l u)
def vR (l : List Int) (u : RS) : List Bx := itV (dbF l) (dbX l) (k9 l u) (kG 2 l u)
def DbI (l : List Int) (u : RS) (k : Nat) (w : RS) (o : List Bx) : Prop := ItI (dbF l) (dbX l) (k9 l u) (kG 2 l u) k w o
theorem DbI.zero (l : List Int) (u : RS) : DbI l u (k9 l u) (kG 2 l u) [] := ItI.zero _ _ _ _
theorem DbI.step {l : List Int} {u : RS} {k : Nat} {w : RS} {o : List Bx} (h : DbI l u k w o) (hk : 0 < k) (hq : qA w = 0) : DbI l u (k - 1) (yE l (aX l (yE l (kG 2 l w)))) (o ++ [vX ((k9 l w : Nat) : Int) (f8 l (kG 2 l w)) (cB l (kG 2 l w)) (dW l (yE l (kG 2 l w))) (f8 l (aX l (yE l (kG 2 l w)))) (cB l (aX l (yE l (kG 2 l w))))]) := ItI.step h hk hq
theorem DbI.fin {l : List Int} {u : RS} {k : Nat} {w : RS} {o : List Bx} (h : DbI l u k w o) (hk : k = 0 ∨ ¬ qA w = 0) : oM l u = w ∧ vR l u = o := ItI.fin h hk
theorem k6b {m : Nat} {l : List Int} {u : RS} (hm : l.length = m) (hu : kV u ≤ m) : kV (oM l u) ≤ m := mC (fun _ h => pP hm (k3w hm (pP hm (yF hm h)))) _ _ (yF hm hu)
theorem sB {l : List Int} (hy : Byt l) (u : RS) : ka1 (vR l u) ≤ 65535 := by
  obtain ⟨c, h1, h2⟩ := gN (f := dbF l) (v := dbX l) (s := 1) (fun _ => rfl) (k9 l u) (kG 2 l u)
  have h3 := vA hy u
  have h4 : ka1 (vR l u) = c * 1 := h2
  omega
theorem u6d {l : List Int} (hy : Byt l) (w : RS) : BsW (dbX l w) := by
  refine BsW.one ?_
  have h1 := eU hy (kG 2 l w); have h2 := eU hy (aX l (yE l (kG 2 l w))); have h3 := k0e hy (yE l (kG 2 l w))
  exact ⟨h1.1, h2.1, ke9 h1.2 (by omega), ke9 h2.2 (by omega), ke9 h3 (by omega), u01 hy _⟩
theorem k6a {l : List Int} (hy : Byt l) (u : RS) : BsW (vR l u) := rI (p := BxW) (fun w => u6d hy w) _ _
attribute [local irreducible] yE f8 cB hC fP aX dW oM vR kG k9 yG
theorem uQ {p : Prop} (h : p := by first | omega | with_reducible assumption | (simp only [kU, kT, pbL_len, ka3, kb1, kb5, kb3, kb2, kb6, kc2] <;> omega) | rfl | assumption) : p := h
theorem vM {p : Prop} (h : p := by first | omega | (simp only [kU, kT, pbL_len, qM, ka3, kb1, kb5, kb3, kb2, kb6, kc2, kc3, kc7, kc6] <;> omega) | rfl) : p := h
theorem o2 {p : Prop} (h : p := by first | omega | (simp only [kU, kT, pbL_len, ka3, kb1, kb5] <;> omega)) : p := h
theorem o1 {p : Prop} (h : p := by first | rfl | omega | assumption | (simp; done) | (simp; omega)) : p := h
theorem o3 {p : Prop} (h : p := by rw [kd1, kc4 (by first | omega | (simp only [kU, kT, pbL_len, qM, ka3, kb1, kb5, kb3, kb2, kb6, kc2, kc3, kc7, kc6] <;> omega))]) : p := h
abbrev c8 (l : List Int) (m : Nat) (w : RS) : BC := .ds [D.sl (dI .u8 l) m, iD (((kV w) : Nat) : Int), iD (qA w)]
theorem u11 (l : List Int) (m : Nat) (u : RS) (hm : ka1 l = m) (hb : m ≤ 1000000) (hy : Byt l) (hu : kV u ≤ m) : Fun 70 [.c (.ptr 0 0)] (kF [(0, some (73, .ds [D.sl (dI .u8 l) m, iD (((kV u) : Nat) : Int), iD (qA u)]))]) 1 (.e (.agg [.d (D.sl (dI .i64 (f8 l u)) (cB l u))])) (kF [(0, some (73, .ds [D.sl (dI .u8 l) m, iD (((kV (yE l u)) : Nat) : Int), iD (qA (yE l u))]))]) 1 := by
  refine Fun.mk (n := 31) Try.func70 rfl rfl (ka4 rfl) ?_
  intro cx hcx
  refine kI [.no] True [(0, rV 0 0), (2, rV 1 0)] [(0, some (73, .ds [db l m, uD (kV u), iD (qA u)])), (1, some (44, .ds [qF]))] 2 trivial ?_
  refine kI [.no] True [(0, rV 0 0), (2, rV 1 0), (3, rV 2 0)] [(0, some (73, .ds [db l m, uD (kV u), iD (qA u)])), (1, some (44, .ds [qF])), (2, some (44, .ds [qF]))] 3 trivial ?_
  refine AW.seq ?_
  have hx1 : ((kV (kG 2 l u)) ≤ m) := (yF (zo) (uQ))
  have hx2 : ((k9 l u) ≤ 65535) := (vA (kQ : Byt l) u)
  refine kI [.no, .call [0] (uV (k9 l u)) [(0, some (73, .ds [db l m, uD (kV (kG 2 l u)), iD (qA (kG 2 l u))]))] 1 [] none, .no] _ [(0, rV 0 0), (2, rV 1 0), (3, rV 2 0), (4, uV (k9 l u))] [(0, some (73, .ds [db l m, uD (kV (kG 2 l u)), iD (qA (kG 2 l u))])), (1, some (44, .ds [qF])), (2, some (44, .ds [qF]))] 3 (aJ l m u zo zo (kQ : Byt l) uQ) ?_
  refine AW.block ?_
  refine oR 2 0 2 84 (cs' := [.own 3 0 0 2 true]) rfl rfl rfl ?_
  refine kX 1 hcx (fun (x : {x : Nat × Nat × RS × List Int // match x with | (k, i, w, o) => (SeI l u k w o) ∧ (ka1 o = i * 2 ∧ i + k ≤ 65535) ∧ (kV w ≤ m)}) => match x with | ⟨(k, i, w, o), _⟩ => (⟨[(0, rV 0 0), (2, rV 1 0), (3, rV 2 0), (4, uV k)], [(0, some (73, (c8 l m w))), (1, some (44, .ds [qF])), (2, some (44, .cs [.own 4 0 i 2 true])), (4, some (84, .ds (dI .i64 o)))], 5⟩ : ES)) (fun x => match x with | ⟨(k, i, w, o), _⟩ => k) ⟨(((k9 l u) : Nat), (0 : Nat), ((kG 2 l u) : RS), (([] : List Int) : List Int)), ⟨(SeI.zero l u), ⟨rfl, by omega⟩, zo⟩⟩ [(4, 3)] (P := (kP 0) ∧ (kP 0) ∧ (kP 0) ∧ (kN (k9 l u : Int)) ∧ (kZ [db l m, uD (kV (kG 2 l u)), iD (qA (kG 2 l u))]) ∧ (kZ [qF]) ∧ (kP 0) ∧ (kP 0) ∧ (((dI .i64 ([] : List Int)) : List D) = ([] : List D))) zk ⟨rfl, rfl, rfl, rfl, rfl, rfl, rfl, rfl, (by first | rfl | with_reducible assumption)⟩ ?_
  rintro ⟨⟨k, i, w, o⟩, hinv0⟩
  obtain ⟨hI, ho, hw⟩ : (SeI l u k w o) ∧ (ka1 o = i * 2 ∧ i + k ≤ 65535) ∧ (kV w ≤ m) := hinv0
  refine qU (l := [(0, rV 0 0), (2, rV 1 0), (3, rV 2 0), (4, uV k)]) (g := [(0, some (73, (c8 l m w))), (1, some (44, .ds [qF])), (2, some (44, .cs [.own 4 0 i 2 true])), (4, some (84, .ds (dI .i64 o)))]) (nx := 5) rfl rfl rfl ?_
  refine AW.seq ?_
  by_cases hx3 : ((0 : Int) < ((k : Nat) : Int))
  · by_cases hx4 : ((qA w) = 0)
    · refine zr (.no :: .b true :: kJ 5 [.b true, .no]) [0, 2, 3, 4, 16] [0, 1, 2, 4] ((((0 : Int) < (k : Int))) ∧ (((qA w) = 0))) [(0, rV 0 0), (2, rV 1 0), (3, rV 2 0), (4, uV k), (16, bV true)] [(0, some (73, (c8 l m w))), (1, some (44, .ds [qF])), (2, some (44, .cs [.own 4 0 i 2 true])), (4, some (84, .ds (dI .i64 o)))] 5 ⟨zo, zo⟩ ?_
      refine vD ?_
      refine AW.seq ?_
      refine AW.block ?_
      have hx5 : ((kV (kG 4 l w)) ≤ m) := (yF (zo) (uQ))
      have hx6 : (((0 : Int) ≤ (yG l w)) ∧ ((yG l w) ≤ 4294967295)) := (pD (kQ : Byt l) w)
      refine kI [.no, .call [0] (iV (yG l w)) [(0, some (73, .ds [db l m, uD (kV (kG 4 l w)), iD (qA (kG 4 l w))]))] 1 [] none, .no] _ [(0, rV 0 0), (2, rV 1 0), (3, rV 2 0), (4, uV k), (5, iV (yG l w))] [(0, some (73, .ds [db l m, uD (kV (kG 4 l w)), iD (qA (kG 4 l w))])), (1, some (44, .ds [qF])), (2, some (44, .cs [.own 4 0 i 2 true])), (4, some (84, .ds (dI .i64 o)))] 5 (sN l m w zo zo (kQ : Byt l) uQ) ?_
      have hx7 : ((kV (kG 4 l (kG 4 l w))) ≤ m) := (yF (zo) (uQ))
      have hx8 : (((0 : Int) ≤ (yG l (kG 4 l w))) ∧ ((yG l (kG 4 l w)) ≤ 4294967295)) := (pD (kQ : Byt l) (kG 4 l w))
      refine v7 (kJ 4 [.call [0] (iV (yG l (kG 4 l w))) [(0, some (73, .ds [db l m, uD (kV (kG 4 l (kG 4 l w))), iD (qA (kG 4 l (kG 4 l w)))]))] 1 [] none, .no, .no, .ap none (i + 1) (dI .i64 (o ++ ([(yG l w), (yG l (kG 4 l w))] : List Int))), .no, .no]) ((_) ∧ ([iD (yG l w), iD (yG l (kG 4 l w))].length = 1 * 2) ∧ (((dI .i64 o) : List D).length = i * 2) ∧ ((i + 1) * 16 ≤ 140737488355328) ∧ (i + 1 = (i + 1)) ∧ (((dI .i64 o) : List D) ++ [iD (yG l w), iD (yG l (kG 4 l w))] = (dI .i64 (o ++ ([(yG l w), (yG l (kG 4 l w))] : List Int))))) [(0, rV 0 0), (2, rV 1 0), (3, rV 2 0), (4, uV k)] [(0, some (73, .ds [db l m, uD (kV (kG 4 l (kG 4 l w))), iD (qA (kG 4 l (kG 4 l w)))])), (1, some (44, .ds [qF])), (2, some (44, .cs [.own 6 0 (i + 1) 2 true])), (6, some (84, .ds (dI .i64 (o ++ ([(yG l w), (yG l (kG 4 l w))] : List Int)))))] 7 ⟨(sN l m (kG 4 l w) zo zo (kQ : Byt l) uQ), vM, vM, zo, zo, (qT .i64 o ([(yG l w), (yG l (kG 4 l w))] : List Int))⟩ ?_
      refine yD [.no, .w, .no] (qJ ((k : Int) - 1)) [(0, rV 0 0), (2, rV 1 0), (3, rV 2 0), (4, iV (↑k - 1))] ⟨by omega, by omega⟩ ?_
      exact qE ⟨(((k - 1) : Nat), ((i + 1) : Nat), ((kG 4 l (kG 4 l w)) : RS), ((o ++ ([(yG l w), (yG l (kG 4 l w))] : List Int)) : List Int)), ⟨(hI.step zo zo), o2, zo⟩⟩ [(4, 6)] (P := (kP 0) ∧ (kP 0) ∧ (kP 0) ∧ (((((k - 1) : Nat) : Int) : Int) = ((k : Int) - 1)) ∧ (kZ [db l m, uD (kV (kG 4 l (kG 4 l w))), iD (qA (kG 4 l (kG 4 l w)))]) ∧ (kZ [qF]) ∧ (kP 0) ∧ (kP (i + 1)) ∧ (kZ (dI .i64 (o ++ ([(yG l w), (yG l (kG 4 l w))] : List Int))))) zk ⟨rfl, rfl, rfl, o1, rfl, rfl, rfl, rfl, rfl⟩ (show (k - 1) < k from (by first | omega | (show _ < _; simp; omega)))
    · refine zr (.no :: .b true :: kJ 5 [.b false, .no]) [0, 2, 3, 4, 16] [0, 1, 2, 4] ((((0 : Int) < (k : Int))) ∧ (¬ ((qA w) = 0))) [(0, rV 0 0), (2, rV 1 0), (3, rV 2 0), (4, uV k), (16, bV false)] [(0, some (73, (c8 l m w))), (1, some (44, .ds [qF])), (2, some (44, .cs [.own 4 0 i 2 true])), (4, some (84, .ds (dI .i64 o)))] 5 ⟨zo, zo⟩ ?_
      refine zf ?_
      refine AW.exit ?_
      refine kI [.no, .no] True [(2, rV 1 0)] [(0, some (73, (c8 l m w))), (1, some (44, .cs [.own 4 0 i 2 true])), (4, some (84, .ds (dI .i64 o)))] 5 trivial ?_
      refine AW.freeze 4 (l' := [(2, rV 1 0)]) (g' := [(0, some (73, (c8 l m w))), (1, some (44, .ds [dl o i]))]) rfl (FzS.cons rfl (.same _) FzS.nil) (uP rfl rfl (FzG.to (bc := .cs [.own 4 0 i 2 true]) rfl (by rfl) (FzL.cons (@FzC.own 4 ((dI .i64 o) : List D) 0 i 2 true ((dI .i64 o) : List D) o3 vM) FzL.nil) FzG.nil)) ?_
      obtain ⟨hz1, hz2⟩ := SeI.fin hI zo
      have hz3 : cB l u = i := k7e hz2 (by omega)
      refine AW.ret ?_
      exact kC (.inr rfl) [] (P := (((dI .i64 (f8 l u)) : List D) = (dI .i64 o)) ∧ (((cB l u) : Nat) = i) ∧ (([db l m, uD (kV (yE l u)), iD (qA (yE l u))] : List D) = [db l m, uD (kV w), iD (qA w)])) zk ⟨(by first | rfl | exact hz3 | (rw [hz1]; done) | (rw [hz2]; done) | (rw [hz2, hz3]; done) | omega | (rw [hz1]; rfl) | (rw [hz2, hz3]; rfl)), (by first | rfl | exact hz3 | (rw [hz1]; done) | (rw [hz2]; done) | (rw [hz2, hz3]; done) | omega | (rw [hz1]; rfl) | (rw [hz2, hz3]; rfl)), (by first | rfl | exact hz3 | (rw [hz1]; done) | (rw [hz2]; done) | (rw [hz2, hz3]; done) | omega | (rw [hz1]; rfl) | (rw [hz2, hz3]; rfl))⟩
  · refine zr [.no, .b false, .no, .no] [0, 2, 3, 4, 16] [0, 1, 2, 4] (¬ ((0 : Int) < (k : Int))) [(0, rV 0 0), (2, rV 1 0), (3, rV 2 0), (4, uV k), (16, bV false)] [(0, some (73, (c8 l m w))), (1, some (44, .ds [qF])), (2, some (44, .cs [.own 4 0 i 2 true])), (4, some (84, .ds (dI .i64 o)))] 5 zo ?_
    refine zf ?_
    refine AW.exit ?_
    refine kI [.no, .no] True [(2, rV 1 0)] [(0, some (73, (c8 l m w))), (1, some (44, .cs [.own 4 0 i 2 true])), (4, some (84, .ds (dI .i64 o)))] 5 trivial ?_
    refine AW.freeze 4 (l' := [(2, rV 1 0)]) (g' := [(0, some (73, (c8 l m w))), (1, some (44, .ds [dl o i]))]) rfl (FzS.cons rfl (.same _) FzS.nil) (uP rfl rfl (FzG.to (bc := .cs [.own 4 0 i 2 true]) rfl (by rfl) (FzL.cons (@FzC.own 4 ((dI .i64 o) : List D) 0 i 2 true ((dI .i64 o) : List D) o3 vM) FzL.nil) FzG.nil)) ?_
    obtain ⟨hz1, hz2⟩ := SeI.fin hI zo
    have hz3 : cB l u = i := k7e hz2 (by omega)
    refine AW.ret ?_
    exact kC (.inr rfl) [] (P := (((dI .i64 (f8 l u)) : List D) = (dI .i64 o)) ∧ (((cB l u) : Nat) = i) ∧ (([db l m, uD (kV (yE l u)), iD (qA (yE l u))] : List D) = [db l m, uD (kV w), iD (qA w)])) zk ⟨(by first | rfl | exact hz3 | (rw [hz1]; done) | (rw [hz2]; done) | (rw [hz2, hz3]; done) | omega | (rw [hz1]; rfl) | (rw [hz2, hz3]; rfl)), (by first | rfl | exact hz3 | (rw [hz1]; done) | (rw [hz2]; done) | (rw [hz2, hz3]; done) | omega | (rw [hz1]; rfl) | (rw [hz2, hz3]; rfl)), (by first | rfl | exact hz3 | (rw [hz1]; done) | (rw [hz2]; done) | (rw [hz2, hz3]; done) | omega | (rw [hz1]; rfl) | (rw [hz2, hz3]; rfl))⟩
theorem o4 {p : Prop} (h : p := by rw [kd1, kc6, kc4 (by first | omega | (simp only [kU, kT, pbL_len, qM, ka3, kb1, kb5, kb3, kb2, kb6, kc2, kc3, kc7, kc6] <;> omega))]) : p := h
abbrev c7 (l : List Int) (m : Nat) (w : RS) : BC := .ds [D.sl (dI .u8 l) m, iD (((kV w) : Nat) : Int), iD (qA w)]
theorem u3d (l : List Int) (m : Nat) (u : RS) (hm : ka1 l = m) (hb : m ≤ 1000000) (hy : Byt l) (hu : kV u ≤ m) : Fun 83 [.c (.ptr 0 0)] (kF [(0, some (73, .ds [D.sl (dI .u8 l) m, iD (((kV u) : Nat) : Int), iD (qA u)]))]) 1 (sV .i64 (fP l u) (ka1 (fP l u))) (kF [(0, some (73, .ds [D.sl (dI .u8 l) m, iD (((kV (hC l u)) : Nat) : Int), iD (qA (hC l u))]))]) 1 := by
  refine Fun.mk (n := 24) Try.func83 rfl rfl (ka4 rfl) ?_
  intro cx hcx
  refine kI [.no] True [(0, rV 0 0)] [(0, some (73, .ds [db l m, uD (kV u), iD (qA u)]))] 1 trivial ?_
  refine k8 [.no] True [(0, rV 0 0), (3, nV)] trivial ?_
  refine AW.seq ?_
  have hx1 : ((kV (kG 2 l u)) ≤ m) := (yF (zo) (uQ))
  have hx2 : ((k9 l u) ≤ 65535) := (vA (kQ : Byt l) u)
  refine kI [.no, .call [0] (uV (k9 l u)) [(0, some (73, .ds [db l m, uD (kV (kG 2 l u)), iD (qA (kG 2 l u))]))] 1 [] none, .no] _ [(0, rV 0 0), (3, nV), (4, uV (k9 l u))] [(0, some (73, .ds [db l m, uD (kV (kG 2 l u)), iD (qA (kG 2 l u))]))] 1 (aJ l m u zo zo (kQ : Byt l) uQ) ?_
  refine AW.block ?_
  refine AW.adoptS 3 1 3 rfl ?_
  refine kX 1 hcx (fun (x : {x : Nat × Nat × RS × List Int // match x with | (k, i, w, o) => (DcI l u k w o) ∧ (ka1 o = i * 1 ∧ i + k ≤ 65535) ∧ (kV w ≤ m)}) => match x with | ⟨(k, i, w, o), _⟩ => (⟨[(0, rV 0 0), (3, oV 2 0 i 1), (4, uV k)], [(0, some (73, (c7 l m w))), (2, some (3, .ds (dI .i64 o)))], 3⟩ : ES)) (fun x => match x with | ⟨(k, i, w, o), _⟩ => k) ⟨(((k9 l u) : Nat), (0 : Nat), ((kG 2 l u) : RS), (([] : List Int) : List Int)), ⟨(DcI.zero l u), ⟨rfl, by omega⟩, zo⟩⟩ [(2, 1)] (P := (kP 0) ∧ (kP 0) ∧ (kP 0) ∧ (kN (k9 l u : Int)) ∧ (kZ [db l m, uD (kV (kG 2 l u)), iD (qA (kG 2 l u))]) ∧ (((dI .i64 ([] : List Int)) : List D) = ([] : List D))) zk ⟨rfl, rfl, rfl, rfl, rfl, (by first | rfl | with_reducible assumption)⟩ ?_
  rintro ⟨⟨k, i, w, o⟩, hinv0⟩
  obtain ⟨hI, ho, hw⟩ : (DcI l u k w o) ∧ (ka1 o = i * 1 ∧ i + k ≤ 65535) ∧ (kV w ≤ m) := hinv0
  refine qU (l := [(0, rV 0 0), (3, oV 2 0 i 1), (4, uV k)]) (g := [(0, some (73, (c7 l m w))), (2, some (3, .ds (dI .i64 o)))]) (nx := 3) rfl rfl rfl ?_
  refine AW.seq ?_
  by_cases hx3 : ((0 : Int) < ((k : Nat) : Int))
  · by_cases hx4 : ((qA w) = 0)
    · refine zr (.no :: .b true :: kJ 5 [.b true, .no]) [0, 3, 4, 15] [0, 2] ((((0 : Int) < (k : Int))) ∧ (((qA w) = 0))) [(0, rV 0 0), (3, oV 2 0 i 1), (4, uV k), (15, bV true)] [(0, some (73, (c7 l m w))), (2, some (3, .ds (dI .i64 o)))] 3 ⟨zo, zo⟩ ?_
      refine vD ?_
      refine AW.seq ?_
      refine AW.block ?_
      have hx5 : ((kV (kG 2 l w)) ≤ m) := (yF (zo) (uQ))
      have hx6 : ((k9 l w) ≤ 65535) := (vA (kQ : Byt l) w)
      refine v7 [.no, .no, .call [0] (uV (k9 l w)) [(0, some (73, .ds [db l m, uD (kV (kG 2 l w)), iD (qA (kG 2 l w))]))] 1 [] none, .no, .ap none (i + 1) (dI .i64 (o ++ ([(k9 l w : Int)] : List Int))), .no] ((_) ∧ ([uD (k9 l w)].length = 1 * 1) ∧ (((dI .i64 o) : List D).length = i * 1) ∧ ((i + 1) * 8 ≤ 140737488355328) ∧ (i + 1 = (i + 1)) ∧ (((dI .i64 o) : List D) ++ [uD (k9 l w)] = (dI .i64 (o ++ ([(k9 l w : Int)] : List Int))))) [(0, rV 0 0), (3, oV 4 0 (i + 1) 1), (4, uV k)] [(0, some (73, .ds [db l m, uD (kV (kG 2 l w)), iD (qA (kG 2 l w))])), (4, some (3, .ds (dI .i64 (o ++ ([(k9 l w : Int)] : List Int)))))] 5 ⟨(aJ l m w zo zo (kQ : Byt l) uQ), vM, vM, zo, zo, (qT .i64 o ([(k9 l w : Int)] : List Int))⟩ ?_
      refine yD [.no, .w, .no] (qJ ((k : Int) - 1)) [(0, rV 0 0), (3, oV 4 0 (i + 1) 1), (4, iV (↑k - 1))] ⟨by omega, by omega⟩ ?_
      exact qE ⟨(((k - 1) : Nat), ((i + 1) : Nat), ((kG 2 l w) : RS), ((o ++ ([(k9 l w : Int)] : List Int)) : List Int)), ⟨(hI.step zo zo), o2, zo⟩⟩ [(2, 4)] (P := (kP 0) ∧ (kP 0) ∧ (kP (i + 1)) ∧ (((((k - 1) : Nat) : Int) : Int) = ((k : Int) - 1)) ∧ (kZ [db l m, uD (kV (kG 2 l w)), iD (qA (kG 2 l w))]) ∧ (kZ (dI .i64 (o ++ ([(k9 l w : Int)] : List Int))))) zk ⟨rfl, rfl, rfl, o1, rfl, rfl⟩ (show (k - 1) < k from (by first | omega | (show _ < _; simp; omega)))
    · refine zr (.no :: .b true :: kJ 5 [.b false, .no]) [0, 3, 4, 15] [0, 2] ((((0 : Int) < (k : Int))) ∧ (¬ ((qA w) = 0))) [(0, rV 0 0), (3, oV 2 0 i 1), (4, uV k), (15, bV false)] [(0, some (73, (c7 l m w))), (2, some (3, .ds (dI .i64 o)))] 3 ⟨zo, zo⟩ ?_
      refine zf ?_
      refine AW.exit ?_
      refine kI [.no, .no] True [(2, oV 2 0 i 1)] [(0, some (73, (c7 l m w))), (2, some (3, .ds (dI .i64 o)))] 3 trivial ?_
      refine AW.freeze 2 (l' := [(2, sV .i64 o i)]) (g' := [(0, some (73, (c7 l m w)))]) rfl (FzS.cons rfl (.e (.c (@FzC.own 2 ((dI .i64 o) : List D) 0 i 1 true ((dI .i64 o) : List D) o4 vM))) FzS.nil) (uP rfl rfl FzG.nil) ?_
      obtain ⟨hz1, hz2⟩ := DcI.fin hI zo
      have hz3 : ka1 (fP l u) = i := by rw [hz2]; omega
      refine AW.ret ?_
      exact kC (.inr rfl) [] (P := (((dI .i64 (fP l u)) : List D) = (dI .i64 o)) ∧ (((ka1 (fP l u)) : Nat) = i) ∧ (([db l m, uD (kV (hC l u)), iD (qA (hC l u))] : List D) = [db l m, uD (kV w), iD (qA w)])) zk ⟨(by first | rfl | exact hz3 | (rw [hz1]; done) | (rw [hz2]; done) | (rw [hz2, hz3]; done) | omega | (rw [hz1]; rfl) | (rw [hz2, hz3]; rfl)), (by first | rfl | exact hz3 | (rw [hz1]; done) | (rw [hz2]; done) | (rw [hz2, hz3]; done) | omega | (rw [hz1]; rfl) | (rw [hz2, hz3]; rfl)), (by first | rfl | exact hz3 | (rw [hz1]; done) | (rw [hz2]; done) | (rw [hz2, hz3]; done) | omega | (rw [hz1]; rfl) | (rw [hz2, hz3]; rfl))⟩
  · refine zr [.no, .b false, .no, .no] [0, 3, 4, 15] [0, 2] (¬ ((0 : Int) < (k : Int))) [(0, rV 0 0), (3, oV 2 0 i 1), (4, uV k), (15, bV false)] [(0, some (73, (c7 l m w))), (2, some (3, .ds (dI .i64 o)))] 3 zo ?_
    refine zf ?_
    refine AW.exit ?_
    refine kI [.no, .no] True [(2, oV 2 0 i 1)] [(0, some (73, (c7 l m w))), (2, some (3, .ds (dI .i64 o)))] 3 trivial ?_
    refine AW.freeze 2 (l' := [(2, sV .i64 o i)]) (g' := [(0, some (73, (c7 l m w)))]) rfl (FzS.cons rfl (.e (.c (@FzC.own 2 ((dI .i64 o) : List D) 0 i 1 true ((dI .i64 o) : List D) o4 vM))) FzS.nil) (uP rfl rfl FzG.nil) ?_
    obtain ⟨hz1, hz2⟩ := DcI.fin hI zo
    have hz3 : ka1 (fP l u) = i := by rw [hz2]; omega
    refine AW.ret ?_
    exact kC (.inr rfl) [] (P := (((dI .i64 (fP l u)) : List D) = (dI .i64 o)) ∧ (((ka1 (fP l u)) : Nat) = i) ∧ (([db l m, uD (kV (hC l u)), iD (qA (hC l u))] : List D) = [db l m, uD (kV w), iD (qA w)])) zk ⟨(by first | rfl | exact hz3 | (rw [hz1]; done) | (rw [hz2]; done) | (rw [hz2, hz3]; done) | omega | (rw [hz1]; rfl) | (rw [hz2, hz3]; rfl)), (by first | rfl | exact hz3 | (rw [hz1]; done) | (rw [hz2]; done) | (rw [hz2, hz3]; done) | omega | (rw [hz1]; rfl) | (rw [hz2, hz3]; rfl)), (by first | rfl | exact hz3 | (rw [hz1]; done) | (rw [hz2]; done) | (rw [hz2, hz3]; done) | omega | (rw [hz1]; rfl) | (rw [hz2, hz3]; rfl))⟩
abbrev c6 (l : List Int) (m : Nat) (w : RS) : BC := .ds [D.sl (dI .u8 l) m, iD (((kV w) : Nat) : Int), iD (qA w)]
theorem u3b (l : List Int) (m : Nat) (u : RS) (hm : ka1 l = m) (hb : m ≤ 1000000) (hy : Byt l) (hu : kV u ≤ m) : Fun 71 [.c (.ptr 0 0)] (kF [(0, some (73, .ds [D.sl (dI .u8 l) m, iD (((kV u) : Nat) : Int), iD (qA u)]))]) 1 (qP (kY (dW l u)) (ka1 (dW l u))) (kF [(0, some (73, .ds [D.sl (dI .u8 l) m, iD (((kV (aX l u)) : Nat) : Int), iD (qA (aX l u))]))]) 1 := by
  refine Fun.mk (n := 24) Try.func71 rfl rfl (ka4 rfl) ?_
  intro cx hcx
  refine kI [.no] True [(0, rV 0 0)] [(0, some (73, .ds [db l m, uD (kV u), iD (qA u)]))] 1 trivial ?_
  refine k8 [.no] True [(0, rV 0 0), (3, nV)] trivial ?_
  refine AW.seq ?_
  have hx1 : ((kV (kG 2 l u)) ≤ m) := (yF (zo) (uQ))
  have hx2 : ((k9 l u) ≤ 65535) := (vA (kQ : Byt l) u)
  refine kI [.no, .call [0] (uV (k9 l u)) [(0, some (73, .ds [db l m, uD (kV (kG 2 l u)), iD (qA (kG 2 l u))]))] 1 [] none, .no] _ [(0, rV 0 0), (3, nV), (4, uV (k9 l u))] [(0, some (73, .ds [db l m, uD (kV (kG 2 l u)), iD (qA (kG 2 l u))]))] 1 (aJ l m u zo zo (kQ : Byt l) uQ) ?_
  refine AW.block ?_
  refine AW.adoptS 3 1 49 rfl ?_
  refine kX 1 hcx (fun (x : {x : Nat × Nat × RS × List (List Int) // match x with | (k, i, w, o) => (MzI l u k w o) ∧ (ka1 o = i * 1 ∧ i + k ≤ 65535) ∧ (kV w ≤ m)}) => match x with | ⟨(k, i, w, o), _⟩ => (⟨[(0, rV 0 0), (3, oV 2 0 i 1), (4, uV k)], [(0, some (73, (c6 l m w))), (2, some (49, .ds (kY o)))], 3⟩ : ES)) (fun x => match x with | ⟨(k, i, w, o), _⟩ => k) ⟨(((k9 l u) : Nat), (0 : Nat), ((kG 2 l u) : RS), (([] : List (List Int)) : List (List Int))), ⟨(MzI.zero l u), ⟨rfl, by omega⟩, zo⟩⟩ [(2, 1)] (P := (kP 0) ∧ (kP 0) ∧ (kP 0) ∧ (kN (k9 l u : Int)) ∧ (kZ [db l m, uD (kV (kG 2 l u)), iD (qA (kG 2 l u))]) ∧ (((kY ([] : List (List Int))) : List D) = ([] : List D))) zk ⟨rfl, rfl, rfl, rfl, rfl, (by first | rfl | with_reducible assumption)⟩ ?_
  rintro ⟨⟨k, i, w, o⟩, hinv0⟩
  obtain ⟨hI, ho, hw⟩ : (MzI l u k w o) ∧ (ka1 o = i * 1 ∧ i + k ≤ 65535) ∧ (kV w ≤ m) := hinv0
  refine qU (l := [(0, rV 0 0), (3, oV 2 0 i 1), (4, uV k)]) (g := [(0, some (73, (c6 l m w))), (2, some (49, .ds (kY o)))]) (nx := 3) rfl rfl rfl ?_
  refine AW.seq ?_
  by_cases hx3 : ((0 : Int) < ((k : Nat) : Int))
  · by_cases hx4 : ((qA w) = 0)
    · refine zr (.no :: .b true :: kJ 5 [.b true, .no]) [0, 3, 4, 15] [0, 2] ((((0 : Int) < (k : Int))) ∧ (((qA w) = 0))) [(0, rV 0 0), (3, oV 2 0 i 1), (4, uV k), (15, bV true)] [(0, some (73, (c6 l m w))), (2, some (49, .ds (kY o)))] 3 ⟨zo, zo⟩ ?_
      refine vD ?_
      refine AW.seq ?_
      refine AW.block ?_
      have hx5 : ((kV (hC l w)) ≤ m) := (k69 (zo) (uQ))
      have hx6 : ((ka1 (fP l w)) ≤ 65535) := (k0u (kQ : Byt l) w)
      refine v7 [.no, .no, .call [0] (sV .i64 (fP l w) (ka1 (fP l w))) [(0, some (73, .ds [db l m, uD (kV (hC l w)), iD (qA (hC l w))]))] 1 [] none, .no, .ap none (i + 1) (kY (o ++ ([(fP l w)] : List (List Int)))), .no] ((_) ∧ ([dl (fP l w) (ka1 (fP l w))].length = 1 * 1) ∧ (((kY o) : List D).length = i * 1) ∧ ((i + 1) * 24 ≤ 140737488355328) ∧ (i + 1 = (i + 1)) ∧ (((kY o) : List D) ++ [dl (fP l w) (ka1 (fP l w))] = (kY (o ++ ([(fP l w)] : List (List Int)))))) [(0, rV 0 0), (3, oV 4 0 (i + 1) 1), (4, uV k)] [(0, some (73, .ds [db l m, uD (kV (hC l w)), iD (qA (hC l w))])), (4, some (49, .ds (kY (o ++ ([(fP l w)] : List (List Int))))))] 5 ⟨(u3d l m w zo zo (kQ : Byt l) uQ), vM, vM, zo, zo, (k0f o (fP l w) (ka1 (fP l w)) (by first | rfl | omega))⟩ ?_
      refine yD [.no, .w, .no] (qJ ((k : Int) - 1)) [(0, rV 0 0), (3, oV 4 0 (i + 1) 1), (4, iV (↑k - 1))] ⟨by omega, by omega⟩ ?_
      exact qE ⟨(((k - 1) : Nat), ((i + 1) : Nat), ((hC l w) : RS), ((o ++ ([(fP l w)] : List (List Int))) : List (List Int))), ⟨(hI.step zo zo), o2, zo⟩⟩ [(2, 4)] (P := (kP 0) ∧ (kP 0) ∧ (kP (i + 1)) ∧ (((((k - 1) : Nat) : Int) : Int) = ((k : Int) - 1)) ∧ (kZ [db l m, uD (kV (hC l w)), iD (qA (hC l w))]) ∧ (kZ (kY (o ++ ([(fP l w)] : List (List Int)))))) zk ⟨rfl, rfl, rfl, o1, rfl, rfl⟩ (show (k - 1) < k from (by first | omega | (show _ < _; simp; omega)))
    · refine zr (.no :: .b true :: kJ 5 [.b false, .no]) [0, 3, 4, 15] [0, 2] ((((0 : Int) < (k : Int))) ∧ (¬ ((qA w) = 0))) [(0, rV 0 0), (3, oV 2 0 i 1), (4, uV k), (15, bV false)] [(0, some (73, (c6 l m w))), (2, some (49, .ds (kY o)))] 3 ⟨zo, zo⟩ ?_
      refine zf ?_
      refine AW.exit ?_
      refine kI [.no, .no] True [(2, oV 2 0 i 1)] [(0, some (73, (c6 l m w))), (2, some (49, .ds (kY o)))] 3 trivial ?_
      refine AW.freeze 2 (l' := [(2, qP (kY o) i)]) (g' := [(0, some (73, (c6 l m w)))]) rfl (FzS.cons rfl (.e (.c (@FzC.own 2 ((kY o) : List D) 0 i 1 true ((kY o) : List D) o4 vM))) FzS.nil) (uP rfl rfl FzG.nil) ?_
      obtain ⟨hz1, hz2⟩ := MzI.fin hI zo
      have hz3 : ka1 (dW l u) = i := by rw [hz2]; omega
      refine AW.ret ?_
      exact kC (.inr rfl) [] (P := (((kY (dW l u)) : List D) = (kY o)) ∧ (((ka1 (dW l u)) : Nat) = i) ∧ (([db l m, uD (kV (aX l u)), iD (qA (aX l u))] : List D) = [db l m, uD (kV w), iD (qA w)])) zk ⟨(by first | rfl | exact hz3 | (rw [hz1]; done) | (rw [hz2]; done) | (rw [hz2, hz3]; done) | omega | (rw [hz1]; rfl) | (rw [hz2, hz3]; rfl)), (by first | rfl | exact hz3 | (rw [hz1]; done) | (rw [hz2]; done) | (rw [hz2, hz3]; done) | omega | (rw [hz1]; rfl) | (rw [hz2, hz3]; rfl)), (by first | rfl | exact hz3 | (rw [hz1]; done) | (rw [hz2]; done) | (rw [hz2, hz3]; done) | omega | (rw [hz1]; rfl) | (rw [hz2, hz3]; rfl))⟩
  · refine zr [.no, .b false, .no, .no] [0, 3, 4, 15] [0, 2] (¬ ((0 : Int) < (k : Int))) [(0, rV 0 0), (3, oV 2 0 i 1), (4, uV k), (15, bV false)] [(0, some (73, (c6 l m w))), (2, some (49, .ds (kY o)))] 3 zo ?_
    refine zf ?_
    refine AW.exit ?_
    refine kI [.no, .no] True [(2, oV 2 0 i 1)] [(0, some (73, (c6 l m w))), (2, some (49, .ds (kY o)))] 3 trivial ?_
    refine AW.freeze 2 (l' := [(2, qP (kY o) i)]) (g' := [(0, some (73, (c6 l m w)))]) rfl (FzS.cons rfl (.e (.c (@FzC.own 2 ((kY o) : List D) 0 i 1 true ((kY o) : List D) o4 vM))) FzS.nil) (uP rfl rfl FzG.nil) ?_
    obtain ⟨hz1, hz2⟩ := MzI.fin hI zo
    have hz3 : ka1 (dW l u) = i := by rw [hz2]; omega
    refine AW.ret ?_
    exact kC (.inr rfl) [] (P := (((kY (dW l u)) : List D) = (kY o)) ∧ (((ka1 (dW l u)) : Nat) = i) ∧ (([db l m, uD (kV (aX l u)), iD (qA (aX l u))] : List D) = [db l m, uD (kV w), iD (qA w)])) zk ⟨(by first | rfl | exact hz3 | (rw [hz1]; done) | (rw [hz2]; done) | (rw [hz2, hz3]; done) | omega | (rw [hz1]; rfl) | (rw [hz2, hz3]; rfl)), (by first | rfl | exact hz3 | (rw [hz1]; done) | (rw [hz2]; done) | (rw [hz2, hz3]; done) | omega | (rw [hz1]; rfl) | (rw [hz2, hz3]; rfl)), (by first | rfl | exact hz3 | (rw [hz1]; done) | (rw [hz2]; done) | (rw [hz2, hz3]; done) | omega | (rw [hz1]; rfl) | (rw [hz2, hz3]; rfl))⟩
abbrev bD (l : List Int) (w : RS) := f8 l (aX l (yE l (kG 2 l w)))
abbrev c5 (l : List Int) (m : Nat) (w : RS) : BC := .ds [D.sl (dI .u8 l) m, iD (((kV w) : Nat) : Int), iD (qA w)]
abbrev w7 (l : List Int) (m : Nat) (w : RS) : BC := .ds [D.sl (dI .u8 l) m, iD (((kV (yE l (aX l (yE l (kG 2 l w))))) : Nat) : Int), iD (qA (yE l (aX l (yE l (kG 2 l w)))))]
@[reducible] def q1M (x : List Bx) : E1 := (.c (.d (D.sl (kR x) (ka1 x))))
theorem k9j (l : List Int) (m : Nat) (u : RS) (hm : ka1 l = m) (hb : m ≤ 1000000) (hy : Byt l) (hu : kV u ≤ m) : Fun 57 [.c (.ptr 0 0)] (kF [(0, some (73, .ds [D.sl (dI .u8 l) m, iD (((kV u) : Nat) : Int), iD (qA u)]))]) 1 (.e (q1M (vR l u))) (kF [(0, some (73, .ds [D.sl (dI .u8 l) m, iD (((kV (oM l u)) : Nat) : Int), iD (qA (oM l u))]))]) 1 := by
  refine Fun.mk (n := 36) Try.func57 rfl rfl (ka4 rfl) ?_
  intro cx hcx
  refine kI [.no] True [(0, rV 0 0)] [(0, some (73, .ds [db l m, uD (kV u), iD (qA u)]))] 1 trivial ?_
  refine k8 [.no] True [(0, rV 0 0), (3, nV)] trivial ?_
  refine AW.seq ?_
  have hx1 : ((kV (kG 2 l u)) ≤ m) := (yF (zo) (uQ))
  have hx2 : ((k9 l u) ≤ 65535) := (vA (kQ : Byt l) u)
  refine kI [.no, .call [0] (uV (k9 l u)) [(0, some (73, .ds [db l m, uD (kV (kG 2 l u)), iD (qA (kG 2 l u))]))] 1 [] none, .no] _ [(0, rV 0 0), (3, nV), (4, uV (k9 l u))] [(0, some (73, .ds [db l m, uD (kV (kG 2 l u)), iD (qA (kG 2 l u))]))] 1 (aJ l m u zo zo (kQ : Byt l) uQ) ?_
  refine AW.block ?_
  refine AW.adoptS 3 4 47 rfl ?_
  refine kX 1 hcx (fun (x : {x : Nat × Nat × RS × List Bx // match x with | (k, i, w, o) => (DbI l u k w o) ∧ (ka1 o = i * 1 ∧ i + k ≤ 65535) ∧ (kV w ≤ m)}) => match x with | ⟨(k, i, w, o), _⟩ => (⟨[(0, rV 0 0), (3, oV 2 0 i 4), (4, uV k)], [(0, some (73, (c5 l m w))), (2, some (47, .ds (kR o)))], 3⟩ : ES)) (fun x => match x with | ⟨(k, i, w, o), _⟩ => k) ⟨(((k9 l u) : Nat), (0 : Nat), ((kG 2 l u) : RS), (([] : List Bx) : List Bx)), ⟨(DbI.zero l u), ⟨rfl, by omega⟩, zo⟩⟩ [(2, 1)] (P := (kP 0) ∧ (kP 0) ∧ (kP 0) ∧ (kN (k9 l u : Int)) ∧ (kZ [db l m, uD (kV (kG 2 l u)), iD (qA (kG 2 l u))]) ∧ (((kR ([] : List Bx)) : List D) = ([] : List D))) zk ⟨rfl, rfl, rfl, rfl, rfl, (by first | rfl | with_reducible assumption)⟩ ?_
  rintro ⟨⟨k, i, w, o⟩, hinv0⟩
  obtain ⟨hI, ho, hw⟩ : (DbI l u k w o) ∧ (ka1 o = i * 1 ∧ i + k ≤ 65535) ∧ (kV w ≤ m) := hinv0
  refine qU (l := [(0, rV 0 0), (3, oV 2 0 i 4), (4, uV k)]) (g := [(0, some (73, (c5 l m w))), (2, some (47, .ds (kR o)))]) (nx := 3) rfl rfl rfl ?_
  refine AW.seq ?_
  by_cases hx3 : ((0 : Int) < ((k : Nat) : Int))
  · by_cases hx4 : ((qA w) = 0)
    · refine zr (.no :: .b true :: kJ 5 [.b true, .no]) [0, 3, 4, 16] [0, 2] ((((0 : Int) < (k : Int))) ∧ (((qA w) = 0))) [(0, rV 0 0), (3, oV 2 0 i 4), (4, uV k), (16, bV true)] [(0, some (73, (c5 l m w))), (2, some (47, .ds (kR o)))] 3 ⟨zo, zo⟩ ?_
      refine vD ?_
      refine AW.seq ?_
      refine AW.block ?_
      have hx5 : ((kV (kG 2 l w)) ≤ m) := (yF (zo) (uQ))
      have hx6 : ((k9 l w) ≤ 65535) := (vA (kQ : Byt l) w)
      refine kI [.no, .call [0] (uV (k9 l w)) [(0, some (73, .ds [db l m, uD (kV (kG 2 l w)), iD (qA (kG 2 l w))]))] 1 [] none, .no, .no, .no] _ [(0, rV 0 0), (3, oV 2 0 i 4), (4, uV k), (5, rV 3 0)] [(0, some (73, .ds [db l m, uD (kV (kG 2 l w)), iD (qA (kG 2 l w))])), (2, some (47, .ds (kR o))), (3, some (47, .ds [uD (k9 l w), qF, qF, qF]))] 4 (aJ l m w zo zo (kQ : Byt l) uQ) ?_
      have hx7 : ((kV (yE l (kG 2 l w))) ≤ m) := (pP (zo) (uQ))
      have hx8 : ((ka1 (f8 l (kG 2 l w))) = ((cB l (kG 2 l w)) * 2)) := (eU (kQ : Byt l) (kG 2 l w)).1
      have hx9 : ((cB l (kG 2 l w)) ≤ 65535) := (eU (kQ : Byt l) (kG 2 l w)).2
      refine kI [.no, .call [0] (.e (.agg [.d (dl (f8 l (kG 2 l w)) (cB l (kG 2 l w)))])) [(0, some (73, .ds [db l m, uD (kV (yE l (kG 2 l w))), iD (qA (yE l (kG 2 l w)))]))] 1 [] none, .no, .no] _ [(0, rV 0 0), (3, oV 2 0 i 4), (4, uV k), (5, rV 3 0)] [(0, some (73, .ds [db l m, uD (kV (yE l (kG 2 l w))), iD (qA (yE l (kG 2 l w)))])), (2, some (47, .ds (kR o))), (3, some (47, .ds [uD (k9 l w), dl (f8 l (kG 2 l w)) (cB l (kG 2 l w)), qF, qF]))] 4 (u11 l m (kG 2 l w) zo zo (kQ : Byt l) uQ) ?_
      have hx10 : ((kV (aX l (yE l (kG 2 l w)))) ≤ m) := (k3w (zo) (uQ))
      have hx11 : ((ka1 (dW l (yE l (kG 2 l w)))) ≤ 65535) := (k0e (kQ : Byt l) (yE l (kG 2 l w)))
      have hx12 : (MsW (dW l (yE l (kG 2 l w)))) := (u01 (kQ : Byt l) (yE l (kG 2 l w)))
      refine kI [.no, .call [0] (qP (kY (dW l (yE l (kG 2 l w)))) (ka1 (dW l (yE l (kG 2 l w))))) [(0, some (73, .ds [db l m, iD (kV (aX l (yE l (kG 2 l w))) : Int), iD (qA (aX l (yE l (kG 2 l w))))]))] 1 [] none, .no, .no] _ [(0, rV 0 0), (3, oV 2 0 i 4), (4, uV k), (5, rV 3 0)] [(0, some (73, .ds [db l m, iD (kV (aX l (yE l (kG 2 l w))) : Int), iD (qA (aX l (yE l (kG 2 l w))))])), (2, some (47, .ds (kR o))), (3, some (47, .ds [uD (k9 l w), dl (f8 l (kG 2 l w)) (cB l (kG 2 l w)), D.sl (kY (dW l (yE l (kG 2 l w)))) (ka1 (dW l (yE l (kG 2 l w)))), qF]))] 4 (u3b l m (yE l (kG 2 l w)) zo zo (kQ : Byt l) uQ) ?_
      have hx13 : ((kV (yE l (aX l (yE l (kG 2 l w))))) ≤ m) := (pP (zo) (uQ))
      have hx14 : ((ka1 (bD l w)) = ((cB l (aX l (yE l (kG 2 l w)))) * 2)) := (eU (kQ : Byt l) (aX l (yE l (kG 2 l w)))).1
      have hx15 : ((cB l (aX l (yE l (kG 2 l w)))) ≤ 65535) := (eU (kQ : Byt l) (aX l (yE l (kG 2 l w)))).2
      refine kI [.no, .call [0] (.e (.agg [.d (dl (bD l w) (cB l (aX l (yE l (kG 2 l w)))))])) [(0, some (73, (w7 l m w)))] 1 [] none, .no, .no] _ [(0, rV 0 0), (3, oV 2 0 i 4), (4, uV k), (5, rV 3 0)] [(0, some (73, (w7 l m w))), (2, some (47, .ds (kR o))), (3, some (47, .ds [uD (k9 l w), dl (f8 l (kG 2 l w)) (cB l (kG 2 l w)), D.sl (kY (dW l (yE l (kG 2 l w)))) (ka1 (dW l (yE l (kG 2 l w)))), dl (bD l w) (cB l (aX l (yE l (kG 2 l w))))]))] 4 (u11 l m (aX l (yE l (kG 2 l w))) zo zo (kQ : Byt l) uQ) ?_
      refine v7 [.no, .no, .no, .ap none (i + 1) (kR (o ++ ([(vX (k9 l w : Int) (f8 l (kG 2 l w)) (cB l (kG 2 l w)) (dW l (yE l (kG 2 l w))) (bD l w) (cB l (aX l (yE l (kG 2 l w)))))] : List Bx))), .no] (([uD (k9 l w), dl (f8 l (kG 2 l w)) (cB l (kG 2 l w)), D.sl (kY (dW l (yE l (kG 2 l w)))) (ka1 (dW l (yE l (kG 2 l w)))), dl (bD l w) (cB l (aX l (yE l (kG 2 l w))))].length = 1 * 4) ∧ (((kR o) : List D).length = i * 4) ∧ ((i + 1) * 80 ≤ 140737488355328) ∧ (i + 1 = (i + 1)) ∧ (((kR o) : List D) ++ [uD (k9 l w), dl (f8 l (kG 2 l w)) (cB l (kG 2 l w)), D.sl (kY (dW l (yE l (kG 2 l w)))) (ka1 (dW l (yE l (kG 2 l w)))), dl (bD l w) (cB l (aX l (yE l (kG 2 l w))))] = (kR (o ++ ([(vX (k9 l w : Int) (f8 l (kG 2 l w)) (cB l (kG 2 l w)) (dW l (yE l (kG 2 l w))) (bD l w) (cB l (aX l (yE l (kG 2 l w)))))] : List Bx))))) [(0, rV 0 0), (3, oV 5 0 (i + 1) 4), (4, uV k)] [(0, some (73, (w7 l m w))), (5, some (47, .ds (kR (o ++ ([(vX (k9 l w : Int) (f8 l (kG 2 l w)) (cB l (kG 2 l w)) (dW l (yE l (kG 2 l w))) (bD l w) (cB l (aX l (yE l (kG 2 l w)))))] : List Bx)))))] 6 ⟨vM, vM, zo, zo, (jY o (k9 l w : Int) (f8 l (kG 2 l w)) (cB l (kG 2 l w)) (dW l (yE l (kG 2 l w))) (ka1 (dW l (yE l (kG 2 l w)))) (bD l w) (cB l (aX l (yE l (kG 2 l w)))) (by first | rfl | omega))⟩ ?_
      refine yD [.no, .w, .no] (qJ ((k : Int) - 1)) [(0, rV 0 0), (3, oV 5 0 (i + 1) 4), (4, iV (↑k - 1))] ⟨by omega, by omega⟩ ?_
      exact qE ⟨(((k - 1) : Nat), ((i + 1) : Nat), ((yE l (aX l (yE l (kG 2 l w)))) : RS), ((o ++ ([(vX (k9 l w : Int) (f8 l (kG 2 l w)) (cB l (kG 2 l w)) (dW l (yE l (kG 2 l w))) (bD l w) (cB l (aX l (yE l (kG 2 l w)))))] : List Bx)) : List Bx)), ⟨(hI.step zo zo), o2, zo⟩⟩ [(2, 5)] (P := (kP 0) ∧ (kP 0) ∧ (kP (i + 1)) ∧ (((((k - 1) : Nat) : Int) : Int) = ((k : Int) - 1)) ∧ (kZ [db l m, iD (((kV (yE l (aX l (yE l (kG 2 l w))))) : Nat) : Int), iD (qA (yE l (aX l (yE l (kG 2 l w)))))]) ∧ (kZ (kR (o ++ ([(vX (k9 l w : Int) (f8 l (kG 2 l w)) (cB l (kG 2 l w)) (dW l (yE l (kG 2 l w))) (bD l w) (cB l (aX l (yE l (kG 2 l w)))))] : List Bx))))) zk ⟨rfl, rfl, rfl, o1, rfl, rfl⟩ (show (k - 1) < k from (by first | omega | (show _ < _; simp; omega)))
    · refine zr (.no :: .b true :: kJ 5 [.b false, .no]) [0, 3, 4, 16] [0, 2] ((((0 : Int) < (k : Int))) ∧ (¬ ((qA w) = 0))) [(0, rV 0 0), (3, oV 2 0 i 4), (4, uV k), (16, bV false)] [(0, some (73, (c5 l m w))), (2, some (47, .ds (kR o)))] 3 ⟨zo, zo⟩ ?_
      refine zf ?_
      refine AW.exit ?_
      refine kI [.no, .no] True [(2, oV 2 0 i 4)] [(0, some (73, (c5 l m w))), (2, some (47, .ds (kR o)))] 3 trivial ?_
      refine AW.freeze 2 (l' := [(2, .e (uX o i))]) (g' := [(0, some (73, (c5 l m w)))]) rfl (FzS.cons rfl (.e (.c (@FzC.own 2 ((kR o) : List D) 0 i 4 true ((kR o) : List D) o3 vM))) FzS.nil) (uP rfl rfl FzG.nil) ?_
      obtain ⟨hz1, hz2⟩ := DbI.fin hI zo
      have hz3 : ka1 (vR l u) = i := by rw [hz2]; omega
      refine AW.ret ?_
      exact kC (.inr rfl) [] (P := (((kR (vR l u)) : List D) = (kR o)) ∧ (((ka1 (vR l u)) : Nat) = i) ∧ (([db l m, uD (kV (oM l u)), iD (qA (oM l u))] : List D) = [db l m, uD (kV w), iD (qA w)])) zk ⟨(by first | rfl | exact hz3 | (rw [hz1]; done) | (rw [hz2]; done) | (rw [hz2, hz3]; done) | omega | (rw [hz1]; rfl) | (rw [hz2, hz3]; rfl)), (by first | rfl | exact hz3 | (rw [hz1]; done) | (rw [hz2]; done) | (rw [hz2, hz3]; done) | omega | (rw [hz1]; rfl) | (rw [hz2, hz3]; rfl)), (by first | rfl | exact hz3 | (rw [hz1]; done) | (rw [hz2]; done) | (rw [hz2, hz3]; done) | omega | (rw [hz1]; rfl) | (rw [hz2, hz3]; rfl))⟩
  · refine zr [.no, .b false, .no, .no] [0, 3, 4, 16] [0, 2] (¬ ((0 : Int) < (k : Int))) [(0, rV 0 0), (3, oV 2 0 i 4), (4, uV k), (16, bV false)] [(0, some (73, (c5 l m w))), (2, some (47, .ds (kR o)))] 3 zo ?_
    refine zf ?_
    refine AW.exit ?_
    refine kI [.no, .no] True [(2, oV 2 0 i 4)] [(0, some (73, (c5 l m w))), (2, some (47, .ds (kR o)))] 3 trivial ?_
    refine AW.freeze 2 (l' := [(2, .e (uX o i))]) (g' := [(0, some (73, (c5 l m w)))]) rfl (FzS.cons rfl (.e (.c (@FzC.own 2 ((kR o) : List D) 0 i 4 true ((kR o) : List D) o3 vM))) FzS.nil) (uP rfl rfl FzG.nil) ?_
    obtain ⟨hz1, hz2⟩ := DbI.fin hI zo
    have hz3 : ka1 (vR l u) = i := by rw [hz2]; omega
    refine AW.ret ?_
    exact kC (.inr rfl) [] (P := (((kR (vR l u)) : List D) = (kR o)) ∧ (((ka1 (vR l u)) : Nat) = i) ∧ (([db l m, uD (kV (oM l u)), iD (qA (oM l u))] : List D) = [db l m, uD (kV w), iD (qA w)])) zk ⟨(by first | rfl | exact hz3 | (rw [hz1]; done) | (rw [hz2]; done) | (rw [hz2, hz3]; done) | omega | (rw [hz1]; rfl) | (rw [hz2, hz3]; rfl)), (by first | rfl | exact hz3 | (rw [hz1]; done) | (rw [hz2]; done) | (rw [hz2, hz3]; done) | omega | (rw [hz1]; rfl) | (rw [hz2, hz3]; rfl)), (by first | rfl | exact hz3 | (rw [hz1]; done) | (rw [hz2]; done) | (rw [hz2, hz3]; done) | omega | (rw [hz1]; rfl) | (rw [hz2, hz3]; rfl))⟩
end Go.Proofs.Ytdbjebdomdnbkaa
