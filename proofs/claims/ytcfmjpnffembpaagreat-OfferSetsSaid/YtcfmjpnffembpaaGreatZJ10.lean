/- What is in two boxes, in two lists. No statement is proved here. -/
import Derived.Test.YtcfmjpnffembpaaGreatZY10
namespace Go.Proofs.YtcfmjpnffembpaaGreat
open Go.ChangeShapes Go.WideShapes Go.ChangeAt Go.RowKit
open Bool renaming and_eq_true → kb7
open Int renaming le_refl → kd9
open List renaming getD → ka1, getD_eq_getElem?_getD → ka8, getElem?_eq_getElem → ka7, take → ka5
open Nat renaming zero_add → ke7, zero_mul → kj0
set_option linter.unusedVariables false
set_option linter.unusedSimpArgs false
theorem u1c {ms : List (List Int)} (h : nQ ms = true) : MsV ms := by
  obtain ⟨h1, h2, h3⟩ := of_decide_eq_true h
  have e : ∀ i (hi : i < ms.length), ka1 ms i [] = ms[i] := fun i hi => by rw [ka8, ka7 hi]; rfl
  refine ⟨fun m hm => ?_, List.pairwise_iff_getElem.2 fun i j hi hj hij => ?_⟩
  · obtain ⟨i, hi, rfl⟩ := List.mem_iff_getElem.1 hm
    have h4 := h3 i hi
    unfold xR at h4
    rw [kb7, e i hi] at h4; exact h4.1
  · have h4 := h3 j hj
    unfold xR at h4
    rw [kb7, e j hj, Bool.not_eq_true'] at h4
    intro e2
    refine of_decide_eq_false h4.2 ?_
    rw [← e2]
    exact List.mem_iff_getElem.2 ⟨i, by rw [List.length_take]; omega, by rw [List.getElem_take]⟩
theorem k6i (a b : List (List Int)) : ∀ i, i ≤ a.length → (uP a b i).Sublist (ka5 i a)
  | 0, _ => List.nil_sublist _
  | i + 1, hi => by
    have ih := k6i a b i (by omega)
    have e : ka5 (i + 1) a = ka5 i a ++ [ka1 a i []] := by
      rw [List.take_succ_eq_append_getElem (by omega), ka8, ka7 (by omega)]; rfl
    rw [uP, e]; split
    · exact List.Sublist.append ih (List.Sublist.refl _)
    · exact ih.trans (List.sublist_append_left _ _)
theorem u8v {a b : List (List Int)} (h : nQ a = true) (h1 : 1 ≤ (uP a b a.length).length) : nQ (uP a b a.length) = true := by
  have hs := k6i a b a.length (Nat.le_refl _)
  rw [List.take_length] at hs
  have hm := u1c h
  have hl := (of_decide_eq_true h).2.1
  exact u3k ⟨fun m hm2 => hm.1 m (hs.mem hm2), hm.2.sublist hs⟩ h1 (Nat.le_trans hs.length_le hl)
theorem u1a {l : List Int} {n : Nat} {lo hi : Int} (hl : l.length = n * 2) (h : dR l n lo hi = true) {x : Int} (hx : gI l x = true) : lo ≤ x ∧ x ≤ hi := by
  unfold dR at h
  rw [kb7, decide_eq_true_iff] at h
  obtain ⟨h1, h2, h3, h4⟩ := h
  have hok := ((dX hl).1 h1).2
  obtain ⟨p, hp, h5⟩ := jT.1 hx
  obtain ⟨j, hj, rfl⟩ := (v7 hl).1 hp
  have mono : ∀ a b, a ≤ b → b < n → ka1 l (a * 2) 0 ≤ ka1 l (b * 2) 0 ∧ ka1 l (a * 2 + 1) 0 ≤ ka1 l (b * 2 + 1) 0 := fun a b hab hb => by
    induction b with
    | zero => obtain rfl : a = 0 := by omega
              exact ⟨kd9 _, kd9 _⟩
    | succ b ih =>
      by_cases e : a = b + 1
      · subst e; exact ⟨kd9 _, kd9 _⟩
      · have i1 := ih (by omega) (by omega)
        have g := iG _ hok b _ _ (by rw [ka7 (by rw [q9 hl]; omega), jN hl (by omega)]) (by rw [ka7 (by rw [q9 hl]; omega), jN hl (by omega)])
        have v1 := fB hok _ ((v7 hl).2 ⟨b, by omega, rfl⟩)
        have v2 := fB hok _ ((v7 hl).2 ⟨b + 1, by omega, rfl⟩)
        unfold eX at v1 v2
        simp only at g v1 v2
        omega
  have m1 := mono 0 j (Nat.zero_le _) hj
  have m2 := mono j (n - 1) (by omega) (by omega)
  simp only [kj0, ke7] at m1
  simp only at h5
  omega
theorem u3j {l : List Int} {n : Nat} {lo hi : Int} (hl : l.length = n * 2) (h1 : eI l n = true) (h2 : 1 ≤ n) (h : ∀ x, gI l x = true → lo ≤ x ∧ x ≤ hi) : dR l n lo hi = true := by
  have hok := ((dX hl).1 h1).2
  have e : ∀ j, j < n → eX (ka1 l (j * 2) 0, ka1 l (j * 2 + 1) 0) := fun j hj => fB hok _ ((v7 hl).2 ⟨j, hj, rfl⟩)
  have e0 := e 0 (by omega); have e1 := e (n - 1) (by omega)
  unfold eX at e0 e1
  simp only [kj0, ke7] at e0 e1
  have a1 := h (ka1 l 0 0) (k8f hl (k := 0) (by omega) (by simp only [kj0, ke7]; omega))
  have a2 := h (ka1 l ((n - 1) * 2 + 1) 0) (k8f hl (k := n - 1) (by omega) (by omega))
  exact u19 h1 ⟨h2, a1.1, a2.2⟩
theorem u2a {a b : List Int} {n m : Nat} (ha : a.length = n * 2) (hb : b.length = m * 2) : eI (uM (kB a n) (kB b m)) (qP (kB a n) (kB b m)) = true := (dX (yM _ _)).2 ⟨a9 _ _, u06 ha hb⟩
def BxF (b : Bx) : Prop := b.rn ≤ 5 ∧ b.sn ≤ 5
def BsF (xs : List Bx) : Prop := ∀ b ∈ xs, BxF b
theorem BsF.nil : BsF [] := fun b hb => by cases hb
theorem BsF.app {a b : List Bx} (h : BsF a) (h2 : BsF b) : BsF (a ++ b) := fun m hm => (List.mem_append.1 hm).elim (h m) (h2 m)
theorem BsF.one {b : Bx} (h : BxF b) : BsF [b] := fun m hm => by rw [List.mem_singleton.1 hm]; exact h
theorem BsF.box {xs : List Bx} (h : BsF xs) {i : Nat} (hi : i < xs.length) : BxF (uO (k9 xs i) (qF xs i) (qB xs i) (kY xs i) (qG xs i) (qC xs i)) := h _ (lZ hi)
end Go.Proofs.YtcfmjpnffembpaaGreat
