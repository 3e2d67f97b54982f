/- Chains out of dice. No statement is proved here. -/
import Derived.Test.YtbicifcgghmhaaaGreatZN12
import Derived.Test.YtbicifcgghmhaaaGreatZL10G
namespace Go.Proofs.YtbicifcgghmhaaaGreat
open Go.ChangeShapes Go.WideShapes Go.ChangeAt Go.RowKit
open List renaming exists_mem_of_length_pos → kf3, length → ka0, range → kd0
open Nat renaming le_refl → kb8, le_trans → kd9, mul_le_mul → kg4
set_option linter.unusedVariables false
set_option linter.unusedSimpArgs false
/-! chapter 12: chains out of dice: what is refused, and where -/
def pdN (ps : List Pt) : Nat → Nat
  | 0 => (kR ps 0).length
  | i + 1 => (kR ps (i + 1)).length * pdN ps i
def PkG (ps : List Pt) : Prop := (1 ≤ ps.length ∧ ps.length ≤ 6) ∧ (∀ p ∈ ps, (1 ≤ p.bs.length ∧ p.bs.length ≤ 8) ∧ BsC 5 p.bs ∧ (0 ≤ p.cv ∧ p.cv ≤ 15)) ∧ ∀ i, i < ps.length → pdN ps i ≤ 64
def PkW (ps : List Pt) : Prop := (1 ≤ ps.length ∧ ps.length ≤ 5) ∧ ∀ p ∈ ps, (1 ≤ p.bs.length ∧ p.bs.length ≤ 2) ∧ BsC 5 p.bs ∧ (0 ≤ p.cv ∧ p.cv ≤ 15)
theorem k05 {ps : List Pt} {i : Nat} (h : i < ps.length) : rR ps i ∈ ps := by
  unfold rR; rw [List.getD_eq_getElem?_getD, List.getElem?_eq_getElem h]; exact List.getElem_mem h
theorem PkG.at {ps : List Pt} (h : PkG ps) {i : Nat} (hi : i < ps.length) : (1 ≤ (kR ps i).length ∧ (kR ps i).length ≤ 8) ∧ BsC 5 (kR ps i) ∧ (0 ≤ uG ps i ∧ uG ps i ≤ 15) := h.2.1 _ (k05 hi)
theorem PkW.at {ps : List Pt} (h : PkW ps) {i : Nat} (hi : i < ps.length) : (1 ≤ (kR ps i).length ∧ (kR ps i).length ≤ 2) ∧ BsC 5 (kR ps i) ∧ (0 ≤ uG ps i ∧ uG ps i ≤ 15) := h.2 _ (k05 hi)
theorem PkG.w {ps : List Pt} (h : PkG ps) : PsW ps := fun p hp => ⟨(h.2.1 p hp).2.1.v.w, by have := (h.2.1 p hp).1; omega⟩
theorem PkG.v {ps : List Pt} (h : PkG ps) : cS ps = true := decide_eq_true ⟨h.1.1, by have := h.1.2; omega, fun i hi => by
  obtain ⟨h1, h2, h3⟩ := h.at hi
  exact u9q ⟨by omega, h3⟩ (h2.v.vb (by omega))⟩
theorem v4t {ps : List Pt} (i : Nat) : (∀ j, j ≤ i → (kR ps j).length ≤ 2) → pdN ps i ≤ 2 ^ (i + 1) := by
  induction i with
  | zero => exact fun h => kd9 (h 0 (kb8 0)) (by decide)
  | succ i ih =>
    intro h
    rw [Nat.pow_succ, Nat.mul_comm]
    exact kg4 (h (i + 1) (kb8 _)) (ih fun j hj => h j (by omega))
theorem v19 {i : Nat} (h : i + 1 ≤ 6) : 2 ^ (i + 1) ≤ 64 := kd9 (Nat.pow_le_pow_right (by decide) h) (by decide)
theorem u3z {ps : List Pt} (h1 : 1 ≤ ps.length ∧ ps.length ≤ 6) (h2 : ∀ p ∈ ps, (1 ≤ p.bs.length ∧ p.bs.length ≤ 2) ∧ BsC 5 p.bs ∧ (0 ≤ p.cv ∧ p.cv ≤ 15)) : PkG ps :=
  ⟨h1, fun p hp => ⟨by have := (h2 p hp).1; omega, (h2 p hp).2⟩, fun i hi => kd9 (v4t i fun j hj => (h2 _ (k05 (i := j) (by omega))).1.2) (v19 (by omega))⟩
theorem PkW.g {ps : List Pt} (h : PkW ps) : PkG ps := u3z (by have := h.1; omega) h.2
theorem PkW.w {ps : List Pt} (h : PkW ps) : PsW ps := h.g.w
theorem PkW.take {ps : List Pt} (h : PkW ps) {n : Nat} (h1 : 1 ≤ n) : PkW (List.take n ps) := ⟨by rw [List.length_take]; have := h.1; omega, fun p hp => h.2 p (List.mem_of_mem_take hp)⟩
theorem k2n {p q : Nat → Bool} {n : Nat} (h : ∀ j, j < n → p j = q j) (k : Nat) : k ≤ n → gY p k = gY q k := by
  induction k with
  | zero => exact fun _ => rfl
  | succ k ih =>
    intro hk
    rw [gY, gY, ih (by omega), h k (by omega)]
/-! along a chain out of dice nothing is too much -/
theorem k5v {N : Nat} {xs : List Bx} (h : BsC N xs) (hn : xs.length ≤ 64) : BsC N (bD xs) ∧ (bD xs).length ≤ xs.length ∧ (1 ≤ xs.length → 1 ≤ (bD xs).length) := by
  obtain ⟨r1, r2, r3⟩ := k5z h.v hn
  refine ⟨fun b hb => ?_, m7 _, fun h1 => ?_⟩
  · rw [r1] at hb
    obtain ⟨k, hk, _, rfl⟩ := (jP _).1 hb
    exact h _ (qM hk)
  · obtain ⟨b, hb⟩ := kf3 h1
    have hv := (h b hb).1
    have hh := (nJ hv).1 (l7 hv.g ⟨0, 0, [], 0⟩).1
    obtain ⟨b', hb', _⟩ := (rO h.v hn _).2 ⟨b, hb, hh⟩
    exact List.length_pos_of_mem hb'
theorem bO {ps : List Pt} (h : PkG ps) (i : Nat) : i < ps.length → fwE ps i = 0 ∧ BsC (5 * (i + 1)) (u1 ps i) ∧ (u1 ps i).length ≤ pdN ps i := by
  induction i with
  | zero =>
    intro hi
    obtain ⟨h1, h2, _⟩ := h.at hi
    obtain ⟨a, b, _⟩ := k5v h2 zo
    exact ⟨rfl, a.mono (by omega), b⟩
  | succ i ih =>
    intro hi
    obtain ⟨h1, h2, _⟩ := h.at hi
    obtain ⟨g1, g2, g3⟩ := ih zo
    have h5 := h.1.2
    have hm : (kR ps (i + 1)).length * (u1 ps i).length ≤ pdN ps (i + 1) := kg4 (kb8 _) g3
    have hp := h.2.2 _ hi
    obtain ⟨e1, e2, e3, _⟩ := u4m (d := uG ps i) h2 g2 zo zo
    exact ⟨e1, e2.mono (by omega), kd9 e3 hm⟩
/-! what is blamed has nothing that is converted -/
def agF : Bool := (kd0 16).all fun m => (kd0 16).all fun d => (decide (qG (m : Int) (d : Int) = 0) || decide (uB ((m : Int) - qG (m : Int) (d : Int)) < uB (m : Int) ∧ 0 ≤ (m : Int) - qG (m : Int) (d : Int) ∧ (m : Int) - qG (m : Int) (d : Int) ≤ 14)) && (kd0 16).all fun x => decide (qG (x : Int) (d : Int) = (d : Int)) == false || decide (qG (x : Int) ((m : Int) - qG (m : Int) (d : Int)) = (m : Int) - qG (m : Int) (d : Int)) == false || decide (qG (x : Int) (m : Int) = (m : Int))
theorem v3e : agF = true := by kernel_rfl
theorem v3g {m d : Int} (hm : 0 ≤ m ∧ m ≤ 15) (hd : 0 ≤ d ∧ d ≤ 15) : (qG m d = 0 ∨ (uB (m - qG m d) < uB m ∧ 0 ≤ m - qG m d ∧ m - qG m d ≤ 14)) ∧ ∀ x, 0 ≤ x ∧ x ≤ 15 → qG x d = d → qG x (m - qG m d) = m - qG m d → qG x m = m := by
  obtain ⟨m, rfl⟩ : ∃ n : Nat, m = (n : Int) := ⟨m.toNat, by omega⟩
  obtain ⟨d, rfl⟩ : ∃ n : Nat, d = (n : Int) := ⟨d.toNat, by omega⟩
  have M := fun {n k : Nat} (h : n < k) => List.mem_range.2 h
  have h := List.all_eq_true.1 (List.all_eq_true.1 v3e m (M (by omega))) d (M (by omega))
  rw [Bool.and_eq_true, Bool.or_eq_true, decide_eq_true_iff, decide_eq_true_iff] at h
  refine ⟨h.1, fun x hx e1 e2 => ?_⟩
  obtain ⟨x, rfl⟩ : ∃ n : Nat, x = (n : Int) := ⟨x.toNat, by omega⟩
  have h3 := List.all_eq_true.1 h.2 x (M (by omega))
  rw [decide_eq_true e1, decide_eq_true e2] at h3
  exact of_decide_eq_true h3
theorem u3o {l : List Int} {d : Int} (hd : 0 ≤ d ∧ d ≤ 15) (hn : 1 ≤ l.length) (hl : ∀ x ∈ l, (0 ≤ x ∧ x ≤ 15) ∧ qG x d = d ∧ ¬ x = 15) : ¬ bI l l.length 14 = 0 ∧ qG (bI l l.length 14) d = 0 := by
  obtain ⟨s1, s2⟩ := nP l l.length hn 14 (kb8 _)
  have hr := tC l l.length 14 (kb8 _)
  have hf : ∀ x ∈ l, ¬ qG x (bI l l.length 14) = bI l l.length 14 := fun x hx e => by
    rcases s1 with s1 | ⟨_, _, s1⟩
    · rw [s1] at e
      have a := (v3g (m := x) (d := 15) (hl x hx).1 (by omega)).1
      have b : qG x 15 = x := by
        have hx := (hl x hx).1
        obtain ⟨x, rfl⟩ : ∃ n : Nat, x = (n : Int) := ⟨x.toNat, by omega⟩
        have : ∀ n : Fin 16, qG (n.1 : Int) 15 = (n.1 : Int) := by decide +kernel
        exact this ⟨x, by omega⟩
      exact (hl x hx).2.2 (b.symm.trans e)
    · have := k0e.2 ⟨x, hx, e⟩
      rw [this] at s1; cases s1
  obtain ⟨f1, f2⟩ := v3g hr hd
  have no : ¬ (uB (bI l l.length 14 - qG (bI l l.length 14) d) < uB (bI l l.length 14) ∧ 0 ≤ bI l l.length 14 - qG (bI l l.length 14) d ∧ bI l l.length 14 - qG (bI l l.length 14) d ≤ 14) := fun ⟨g1, g2, g3⟩ => by
    have hx : ∀ x ∈ l, ¬ qG x (bI l l.length 14 - qG (bI l l.length 14) d) = bI l l.length 14 - qG (bI l l.length 14) d := fun x hx e => hf x hx (f2 x (hl x hx).1 (hl x hx).2.1 e)
    obtain ⟨x, hm⟩ := kf3 hn
    by_cases e : bI l l.length 14 - qG (bI l l.length 14) d = 0
    · refine hx x hm ?_
      rw [e]
      have hx := (hl x hm).1
      obtain ⟨x, rfl⟩ : ∃ n : Nat, x = (n : Int) := ⟨x.toNat, by omega⟩
      have : ∀ n : Fin 16, qG (n.1 : Int) 0 = 0 := by decide +kernel
      exact this ⟨x, by omega⟩
    · have hm : jD l l.length (bI l l.length 14 - qG (bI l l.length 14) d) = false := by
        rw [← Bool.not_eq_true]; intro e
        obtain ⟨x, h1, h2⟩ := k0e.1 e
        exact hx x h1 h2
      have := s2 _ (by omega) g3 hm
      omega
  refine ⟨?_, f1.resolve_right no⟩
  rcases s1 with s1 | s1 <;> omega
theorem u0d {ps : List Pt} (h : PkG ps) {i : Nat} (hi : i + 1 < ps.length) (hp : 1 ≤ (u1 ps i).length) (h0 : (u1 ps (i + 1)).length = 0) : ¬ fwB ps (i + 1) = 0 ∧ qG (fwB ps (i + 1)) (uG ps i) = 0 := by
  obtain ⟨h1, h2, _⟩ := h.at hi
  obtain ⟨_, _, h3⟩ := h.at (show i < ps.length by omega)
  obtain ⟨_, g2, g3⟩ := bO h i zo
  have h5 := h.1.2
  have hm : (kR ps (i + 1)).length * (u1 ps i).length ≤ pdN ps (i + 1) := kg4 (kb8 _) g3
  have hp2 := h.2.2 _ hi
  obtain ⟨_, _, _, e4⟩ := u4m (d := uG ps i) h2 g2 zo zo
  have e5 := e4 h0
  have e : fwB ps (i + 1) = bI (lO (uG ps i) (kR ps (i + 1)) (u1 ps i) (kR ps (i + 1)).length) (lO (uG ps i) (kR ps (i + 1)) (u1 ps i) (kR ps (i + 1)).length).length 14 := by
    show tB _ _ _ = _
    unfold tB
    rw [if_neg (by omega), u3l _ _ (by rw [iX]; exact Nat.mul_pos h1.1 hp)]
  rw [e]
  refine u3o h3 (by rw [iX]; exact Nat.mul_pos h1.1 hp) fun x hx => ?_
  obtain ⟨a, k, ha, hk, rfl⟩ := (tA _).1 hx
  obtain ⟨s1, s2, s3⟩ := u74 h3 h2.v g2.v ha hk
  refine ⟨s1, s2, fun e15 => ?_⟩
  have hc := e5 a k ha hk
  have hc2 := (u5p (h2.v _ (qM ha)) (k3u (uG ps i) (h2.v _ (qM ha)) (g2.v _ (qM hk))).1).2 (s3.1 e15)
  rw [hc] at hc2; cases hc2
/-! the law -/
theorem u2p {p : Nat → Bool} {k : Nat} (h : 0 ≤ gY p k) (m : Nat) : gY p (k + m) = gY p k := by
  induction m with
  | zero => rfl
  | succ m ih =>
    show (if 0 ≤ gY p (k + m) then gY p (k + m) else if p (k + m) = true then ((k + m : Nat) : Int) else -1) = _
    rw [ih, if_pos h]
theorem k0n {ps : List Pt} (h : PkG ps) : (lD ps ps.length = -1 ∧ uX ps = 0 ∧ aY ps = 0 ∧ aZ ps = 0) ∨ ∃ X, X + 1 < ps.length ∧ lD ps (X + 1) = -1 ∧ mL ps (X + 1) = true ∧ uX ps = 13 ∧ aY ps = (X : Int) + 1 ∧ aZ ps = fwB ps (X + 1) ∧ ¬ fwB ps (X + 1) = 0 ∧ qG (fwB ps (X + 1)) (uG ps X) = 0 := by
  rcases fS (mL ps) ps.length with ⟨h1, _⟩ | ⟨k, hk, h1, h2⟩
  · obtain ⟨_, a, b, c⟩ := u53 h.v h1 rfl
    exact .inl ⟨h1, c, a, b⟩
  · have hkm : lD ps k = -1 := by
      rcases fS (mL ps) k with ⟨h3, _⟩ | ⟨j, hj, h3, _⟩
      · exact h3
      · have h4 := u2p (p := mL ps) (k := k) (by omega) (ps.length - k)
        rw [show k + (ps.length - k) = ps.length by omega, h1, h3] at h4
        omega
    obtain ⟨g1, _, _⟩ := bO h k hk
    have hl : (u1 ps k).length = 0 := (of_decide_eq_true h2).resolve_left fun a => a g1
    obtain ⟨_, p, d, z⟩ := lZ h.v hkm hk g1 hl
    match k, hk, h1, h2, hkm, g1, hl, p, d, z with
    | 0, hk, h1, h2, hkm, g1, hl, p, d, z =>
      obtain ⟨q1, q2, _⟩ := h.at hk
      have := (k5v q2 (by omega)).2.2 q1.1
      have hl : (bD (kR ps 0)).length = 0 := hl
      omega
    | X + 1, hk, h1, h2, hkm, g1, hl, p, d, z =>
      have hp : 1 ≤ (u1 ps X).length := by
        have : mL ps X = false := by
          have hkm : (if 0 ≤ lD ps X then lD ps X else if mL ps X = true then (X : Int) else -1) = -1 := hkm
          by_cases c : 0 ≤ lD ps X
          · rw [if_pos c] at hkm; omega
          · rw [if_neg c] at hkm
            by_cases c2 : mL ps X = true
            · rw [if_pos c2] at hkm; omega
            · exact Bool.not_eq_true _ ▸ c2
        have := of_decide_eq_false this
        by_cases c : (u1 ps X).length = 0
        · exact absurd (.inr c) this
        · omega
      obtain ⟨b1, b2⟩ := u0d h hk hp hl
      exact .inr ⟨X, hk, hkm, h2, z, by rw [p]; omega, d, b1, b2⟩
/-! ports out of dice -/
def eE (l : List Int) : List Int := yS (kC l 2) (1 + kD l 2)
def lG (l : List Int) : List Bx := bbL (kC l 2) (1 + kD l 2)
def aH (l : List Int) : Nat → List Int
  | 0 => l
  | i + 1 => kC (eE (aH l i)) 16
def poL (l : List Int) : Nat → List Pt
  | 0 => []
  | i + 1 => poL l i ++ [dW (lG (aH l i)) ((kD (eE (aH l i)) 16 : Nat) : Int)]
theorem tE {l : List Int} (h : Byt l) : Byt (eE l) := fX (qH _ h) _
theorem cU {l : List Int} (h : Byt l) : ∀ i, Byt (aH l i)
  | 0 => h
  | i + 1 => qH _ (tE (cU h i))
theorem rU (l : List Int) : ∀ i, ka0 (poL l i) = i
  | 0 => rfl
  | i + 1 => by rw [poL, List.length_append, rU l i]; rfl
theorem v39 {l : List Int} (h : Byt l) : BsC 5 (lG l) := fun b hb => ⟨u62 (qH _ h) _ b hb, u63 (qH _ h) _ b hb⟩
theorem k34 {l : List Int} (h : Byt l) : 1 ≤ ka0 (lG l) ∧ ka0 (lG l) ≤ 2 := by
  unfold lG; rw [tF]
  have := q8 l 2 h; omega
theorem k1s {l : List Int} (h : Byt l) : ∀ i, ∀ p ∈ poL l i, (1 ≤ p.bs.length ∧ p.bs.length ≤ 2) ∧ BsC 5 p.bs ∧ (0 ≤ p.cv ∧ p.cv ≤ 15)
  | 0, p, hp => (by cases hp)
  | i + 1, p, hp => by
    rcases List.mem_append.1 hp with hp | hp
    · exact k1s h i p hp
    · rw [List.mem_singleton.1 hp]
      refine ⟨k34 (cU h i), v39 (cU h i), ?_⟩
      have := q8 (eE (aH l i)) 16 (tE (cU h i))
      show 0 ≤ ((kD (eE (aH l i)) 16 : Nat) : Int) ∧ ((kD (eE (aH l i)) 16 : Nat) : Int) ≤ (15 : Int)
      omega
theorem v17 {l : List Int} (h : Byt l) {n : Nat} (hn : 1 ≤ n ∧ n ≤ 5) : PkW (poL l n) := ⟨by rw [rU]; exact hn, k1s h n⟩
theorem v4q {l : List Int} {i : Nat} {ps : List Pt} {c : Int} (h : poL l i = ps) (hc : c = ((kD (eE (aH l i)) 16 : Nat) : Int)) : poL l (i + 1) = ps ++ [dW (lG (aH l i)) c] := by
  subst h; subst hc; rfl
end Go.Proofs.YtbicifcgghmhaaaGreat
