/- Chains out of dice. No statement is proved here. -/
import Derived.Test.YtbicifcgghmhaaaGreatZN12
import Derived.Test.YtbicifcgghmhaaaGreatZL10G
namespace Go.Proofs.YtbicifcgghmhaaaGreat
open Go.ChangeShapes Go.WideShapes Go.ChangeAt Go.RowKit
open Int renaming toNat → kb7
open List renaming exists_mem_of_length_pos → kf4, getD_eq_getElem?_getD → ka7, length → ka0, length_take → kb0, range → kd3, take → ka5
open Nat renaming le_refl → kc3, le_trans → ke0, mul_le_mul → kn2
set_option linter.unusedVariables false
set_option linter.unusedSimpArgs false
/-! chapter 12: chains out of dice: what is refused, and where -/
def PkW (ps : List Pt) : Prop := (1 ≤ ps.length ∧ ps.length ≤ 5) ∧ ∀ p ∈ ps, (1 ≤ p.bs.length ∧ p.bs.length ≤ 2) ∧ BsC 5 p.bs ∧ (0 ≤ p.cv ∧ p.cv ≤ 15)
theorem u6e {ps : List Pt} {i : Nat} (h : i < ps.length) : l8 ps i ∈ ps := by
  unfold l8; rw [ka7, List.getElem?_eq_getElem h]; exact List.getElem_mem h
theorem PkW.at {ps : List Pt} (h : PkW ps) {i : Nat} (hi : i < ps.length) : (1 ≤ (uK ps i).length ∧ (uK ps i).length ≤ 2) ∧ BsC 5 (uK ps i) ∧ (0 ≤ q7 ps i ∧ q7 ps i ≤ 15) := h.2 _ (u6e hi)
theorem PkW.w {ps : List Pt} (h : PkW ps) : PsW ps := fun p hp => ⟨(h.2 p hp).2.1.v.w, by have := (h.2 p hp).1; omega⟩
theorem PkW.v {ps : List Pt} (h : PkW ps) : dW ps = true := decide_eq_true ⟨h.1.1, by have := h.1.2; omega, fun i hi => by
  obtain ⟨h1, h2, h3⟩ := h.at hi
  exact u93 ⟨by omega, h3⟩ (h2.v.vb (by omega))⟩
theorem PkW.take {ps : List Pt} (h : PkW ps) {n : Nat} (h1 : 1 ≤ n) : PkW (ka5 n ps) := ⟨by rw [kb0]; have := h.1; omega, fun p hp => h.2 p (List.mem_of_mem_take hp)⟩
theorem PkW.len {ps : List Pt} (h : PkW ps) : 1 ≤ ps.length ∧ ps.length ≤ 5 := h.1
/-! the same ports, fewer -/
theorem nQ {ps : List Pt} {n i : Nat} (h : i < n) : l8 (ka5 n ps) i = l8 ps i := by
  unfold l8; rw [ka7, ka7, List.getElem?_take_of_lt h]
theorem n9 {ps : List Pt} {n : Nat} : ∀ {i : Nat}, i < n → yZ (ka5 n ps) i = yZ ps i
  | 0, h => by show bG (l8 (ka5 n ps) 0).bs = bG (l8 ps 0).bs; rw [nQ h]
  | i + 1, h => by
    show c6 (l8 (ka5 n ps) i).cv (l8 (ka5 n ps) (i + 1)).bs (yZ (ka5 n ps) i) = c6 (l8 ps i).cv (l8 ps (i + 1)).bs (yZ ps i)
    rw [nQ h, nQ (by omega), n9 (by omega)]
theorem k7v {ps : List Pt} {n : Nat} : ∀ {i : Nat}, i < n → fwE (ka5 n ps) i = fwE ps i
  | 0, _ => rfl
  | i + 1, h => by
    show iJ (l8 (ka5 n ps) i).cv (l8 (ka5 n ps) (i + 1)).bs (yZ (ka5 n ps) i) = iJ (l8 ps i).cv (l8 ps (i + 1)).bs (yZ ps i)
    rw [nQ h, nQ (by omega), n9 (by omega)]
theorem u7g {ps : List Pt} {n : Nat} : ∀ {i : Nat}, i < n → fwB (ka5 n ps) i = fwB ps i
  | 0, _ => rfl
  | i + 1, h => by
    show blN (l8 (ka5 n ps) i).cv (l8 (ka5 n ps) (i + 1)).bs (yZ (ka5 n ps) i) = blN (l8 ps i).cv (l8 ps (i + 1)).bs (yZ ps i)
    rw [nQ h, nQ (by omega), n9 (by omega)]
theorem u90 {ps : List Pt} {n i : Nat} (h : i < n) : wdB (ka5 n ps) i = wdB ps i := by unfold wdB; rw [n9 h, k7v h]
theorem u22 {p q : Nat → Bool} {n : Nat} (h : ∀ j, j < n → p j = q j) (k : Nat) : k ≤ n → jD p k = jD q k := by
  induction k with
  | zero => exact fun _ => rfl
  | succ k ih =>
    intro hk
    rw [jD, jD, ih (by omega), h k (by omega)]
theorem k7t {ps : List Pt} {n i : Nat} (h : i ≤ n) : o9 (ka5 n ps) i = o9 ps i := u22 (fun _ hj => u90 hj) i h
/-! along a chain out of dice nothing is too much -/
theorem k5r {N : Nat} {xs : List Bx} (h : BsC N xs) (hn : xs.length ≤ 64) : BsC N (bG xs) ∧ (bG xs).length ≤ xs.length ∧ (1 ≤ xs.length → 1 ≤ (bG xs).length) := by
  obtain ⟨r1, r2, r3⟩ := k5w h.v hn
  refine ⟨fun b hb => ?_, nP _, fun h1 => ?_⟩
  · rw [r1] at hb
    obtain ⟨k, hk, _, rfl⟩ := (lC _).1 hb
    exact h _ (yS hk)
  · obtain ⟨b, hb⟩ := kf4 h1
    have hv := (h b hb).1
    have hh := (k7l hv).1 (k3e hv.g ⟨0, 0, [], 0⟩).1
    obtain ⟨b', hb', _⟩ := (k5u h.v hn _).2 ⟨b, hb, hh⟩
    exact List.length_pos_of_mem hb'
theorem u3y {i : Nat} (h : i + 1 ≤ 4) : 2 ^ (i + 1) ≤ 16 := ke0 (Nat.pow_le_pow_right (by decide) h) (by decide)
theorem k16 {ps : List Pt} (h : PkW ps) (i : Nat) : i < ps.length → fwE ps i = 0 ∧ BsC (5 * (i + 1)) (yZ ps i) ∧ (yZ ps i).length ≤ 2 ^ (i + 1) := by
  induction i with
  | zero =>
    intro hi
    obtain ⟨h1, h2, _⟩ := h.at hi
    obtain ⟨a, b, _⟩ := k5r h2 zo
    refine ⟨rfl, a.mono zo, ke0 b (ke0 h1.2 (by decide))⟩
  | succ i ih =>
    intro hi
    obtain ⟨h1, h2, _⟩ := h.at hi
    obtain ⟨g1, g2, g3⟩ := ih zo
    have h5 := h.1.2
    have hp : 2 ^ (i + 1) ≤ 16 := u3y (by omega)
    have hm : (uK ps (i + 1)).length * (yZ ps i).length ≤ 2 * 2 ^ (i + 1) := kn2 h1.2 g3
    obtain ⟨e1, e2, e3, _⟩ := u3r (d := q7 ps i) h2 g2 zo zo
    refine ⟨e1, e2.mono zo, ke0 e3 ?_⟩
    rw [Nat.pow_succ]; omega
/-! what is blamed has nothing that is converted -/
def agF : Bool := (kd3 16).all fun m => (kd3 16).all fun d => (decide (qV (m : Int) (d : Int) = 0) || decide (uQ ((m : Int) - qV (m : Int) (d : Int)) < uQ (m : Int) ∧ 0 ≤ (m : Int) - qV (m : Int) (d : Int) ∧ (m : Int) - qV (m : Int) (d : Int) ≤ 14)) && (kd3 16).all fun x => decide (qV (x : Int) (d : Int) = (d : Int)) == false || decide (qV (x : Int) ((m : Int) - qV (m : Int) (d : Int)) = (m : Int) - qV (m : Int) (d : Int)) == false || decide (qV (x : Int) (m : Int) = (m : Int))
theorem v2a : agF = true := by kernel_rfl
theorem v2c {m d : Int} (hm : 0 ≤ m ∧ m ≤ 15) (hd : 0 ≤ d ∧ d ≤ 15) : (qV m d = 0 ∨ (uQ (m - qV m d) < uQ m ∧ 0 ≤ m - qV m d ∧ m - qV m d ≤ 14)) ∧ ∀ x, 0 ≤ x ∧ x ≤ 15 → qV x d = d → qV x (m - qV m d) = m - qV m d → qV x m = m := by
  obtain ⟨m, rfl⟩ : ∃ n : Nat, m = (n : Int) := ⟨m.toNat, by omega⟩
  obtain ⟨d, rfl⟩ : ∃ n : Nat, d = (n : Int) := ⟨d.toNat, by omega⟩
  have M := fun {n k : Nat} (h : n < k) => List.mem_range.2 h
  have h := List.all_eq_true.1 (List.all_eq_true.1 v2a m (M (by omega))) d (M (by omega))
  rw [Bool.and_eq_true, Bool.or_eq_true, decide_eq_true_iff, decide_eq_true_iff] at h
  refine ⟨h.1, fun x hx e1 e2 => ?_⟩
  obtain ⟨x, rfl⟩ : ∃ n : Nat, x = (n : Int) := ⟨x.toNat, by omega⟩
  have h3 := List.all_eq_true.1 h.2 x (M (by omega))
  rw [decide_eq_true e1, decide_eq_true e2] at h3
  exact of_decide_eq_true h3
theorem u30 {l : List Int} {d : Int} (hd : 0 ≤ d ∧ d ≤ 15) (hn : 1 ≤ l.length) (hl : ∀ x ∈ l, (0 ≤ x ∧ x ≤ 15) ∧ qV x d = d ∧ ¬ x = 15) : ¬ cK l l.length 14 = 0 ∧ qV (cK l l.length 14) d = 0 := by
  obtain ⟨s1, s2⟩ := oE l l.length hn 14 (kc3 _)
  have hr := tV l l.length 14 (kc3 _)
  have hf : ∀ x ∈ l, ¬ qV x (cK l l.length 14) = cK l l.length 14 := fun x hx e => by
    rcases s1 with s1 | ⟨_, _, s1⟩
    · rw [s1] at e
      have a := (v2c (m := x) (d := 15) (hl x hx).1 (by omega)).1
      have b : qV x 15 = x := by
        have hx := (hl x hx).1
        obtain ⟨x, rfl⟩ : ∃ n : Nat, x = (n : Int) := ⟨x.toNat, by omega⟩
        have : ∀ n : Fin 16, qV (n.1 : Int) 15 = (n.1 : Int) := by decide +kernel
        exact this ⟨x, by omega⟩
      exact (hl x hx).2.2 (b.symm.trans e)
    · have := k6q.2 ⟨x, hx, e⟩
      rw [this] at s1; cases s1
  obtain ⟨f1, f2⟩ := v2c hr hd
  have no : ¬ (uQ (cK l l.length 14 - qV (cK l l.length 14) d) < uQ (cK l l.length 14) ∧ 0 ≤ cK l l.length 14 - qV (cK l l.length 14) d ∧ cK l l.length 14 - qV (cK l l.length 14) d ≤ 14) := fun ⟨g1, g2, g3⟩ => by
    have hx : ∀ x ∈ l, ¬ qV x (cK l l.length 14 - qV (cK l l.length 14) d) = cK l l.length 14 - qV (cK l l.length 14) d := fun x hx e => hf x hx (f2 x (hl x hx).1 (hl x hx).2.1 e)
    obtain ⟨x, hm⟩ := kf4 hn
    by_cases e : cK l l.length 14 - qV (cK l l.length 14) d = 0
    · refine hx x hm ?_
      rw [e]
      have hx := (hl x hm).1
      obtain ⟨x, rfl⟩ : ∃ n : Nat, x = (n : Int) := ⟨x.toNat, by omega⟩
      have : ∀ n : Fin 16, qV (n.1 : Int) 0 = 0 := by decide +kernel
      exact this ⟨x, by omega⟩
    · have hm : o5 l l.length (cK l l.length 14 - qV (cK l l.length 14) d) = false := by
        rw [← Bool.not_eq_true]; intro e
        obtain ⟨x, h1, h2⟩ := k6q.1 e
        exact hx x h1 h2
      have := s2 _ (by omega) g3 hm
      omega
  refine ⟨?_, f1.resolve_right no⟩
  rcases s1 with s1 | s1 <;> omega
theorem k9v {ps : List Pt} (h : PkW ps) {i : Nat} (hi : i + 1 < ps.length) (hp : 1 ≤ (yZ ps i).length) (h0 : (yZ ps (i + 1)).length = 0) : ¬ fwB ps (i + 1) = 0 ∧ qV (fwB ps (i + 1)) (q7 ps i) = 0 := by
  obtain ⟨h1, h2, _⟩ := h.at hi
  obtain ⟨_, _, h3⟩ := h.at (show i < ps.length by omega)
  obtain ⟨_, g2, g3⟩ := k16 h i zo
  have h5 := h.1.2
  have hp2 : 2 ^ (i + 1) ≤ 16 := u3y (by omega)
  have hm : (uK ps (i + 1)).length * (yZ ps i).length ≤ 2 * 2 ^ (i + 1) := kn2 h1.2 g3
  obtain ⟨_, _, _, e4⟩ := u3r (d := q7 ps i) h2 g2 zo zo
  have e5 := e4 h0
  have e : fwB ps (i + 1) = cK (bpS (q7 ps i) (uK ps (i + 1)) (yZ ps i) (uK ps (i + 1)).length) (bpS (q7 ps i) (uK ps (i + 1)) (yZ ps i) (uK ps (i + 1)).length).length 14 := by
    show blN _ _ _ = _
    unfold blN
    rw [if_neg (by omega), v1s _ _ (by rw [tU]; exact Nat.mul_pos h1.1 hp)]
  rw [e]
  refine u30 h3 (by rw [tU]; exact Nat.mul_pos h1.1 hp) fun x hx => ?_
  obtain ⟨a, k, ha, hk, rfl⟩ := (k9s _).1 hx
  obtain ⟨s1, s2, s3⟩ := u62 h3 h2.v g2.v ha hk
  refine ⟨s1, s2, fun e15 => ?_⟩
  have hc := e5 a k ha hk
  have hc2 := (v1g (h2.v _ (yS ha)) (u6p (q7 ps i) (h2.v _ (yS ha)) (g2.v _ (yS hk))).1).2 (s3.1 e15)
  rw [hc] at hc2; cases hc2
/-! the law -/
theorem u21 {p : Nat → Bool} {k : Nat} (h : 0 ≤ jD p k) (m : Nat) : jD p (k + m) = jD p k := by
  induction m with
  | zero => rfl
  | succ m ih =>
    show (if 0 ≤ jD p (k + m) then jD p (k + m) else if p (k + m) = true then ((k + m : Nat) : Int) else -1) = _
    rw [ih, if_pos h]
theorem u7d {ps : List Pt} (h : PkW ps) : (o9 ps ps.length = -1 ∧ aH ps = 0 ∧ uH ps = 0 ∧ aD ps = 0) ∨ ∃ X, X + 1 < ps.length ∧ o9 ps (X + 1) = -1 ∧ wdB ps (X + 1) = true ∧ aH ps = 13 ∧ uH ps = (X : Int) + 1 ∧ aD ps = fwB ps (X + 1) ∧ ¬ fwB ps (X + 1) = 0 ∧ qV (fwB ps (X + 1)) (q7 ps X) = 0 := by
  rcases jC (wdB ps) ps.length with ⟨h1, _⟩ | ⟨k, hk, h1, h2⟩
  · obtain ⟨_, a, b, c⟩ := k7p h.v h1 rfl
    exact .inl ⟨h1, c, a, b⟩
  · have hkm : o9 ps k = -1 := by
      rcases jC (wdB ps) k with ⟨h3, _⟩ | ⟨j, hj, h3, _⟩
      · exact h3
      · have h4 := u21 (p := wdB ps) (k := k) (by omega) (ps.length - k)
        rw [show k + (ps.length - k) = ps.length by omega, h1, h3] at h4
        omega
    obtain ⟨g1, _, _⟩ := k16 h k hk
    have hl : (yZ ps k).length = 0 := (of_decide_eq_true h2).resolve_left fun a => a g1
    obtain ⟨_, p, d, z⟩ := mN h.v hkm hk g1 hl
    match k, hk, h1, h2, hkm, g1, hl, p, d, z with
    | 0, hk, h1, h2, hkm, g1, hl, p, d, z =>
      obtain ⟨q1, q2, _⟩ := h.at hk
      have := (k5r q2 (by omega)).2.2 q1.1
      have hl : (bG (uK ps 0)).length = 0 := hl
      omega
    | X + 1, hk, h1, h2, hkm, g1, hl, p, d, z =>
      have hp : 1 ≤ (yZ ps X).length := by
        have : wdB ps X = false := by
          have hkm : (if 0 ≤ o9 ps X then o9 ps X else if wdB ps X = true then (X : Int) else -1) = -1 := hkm
          by_cases c : 0 ≤ o9 ps X
          · rw [if_pos c] at hkm; omega
          · rw [if_neg c] at hkm
            by_cases c2 : wdB ps X = true
            · rw [if_pos c2] at hkm; omega
            · exact Bool.not_eq_true _ ▸ c2
        have := of_decide_eq_false this
        by_cases c : (yZ ps X).length = 0
        · exact absurd (.inr c) this
        · omega
      obtain ⟨b1, b2⟩ := k9v h hk hp hl
      exact .inr ⟨X, hk, hkm, h2, z, by rw [p]; omega, d, b1, b2⟩
theorem k7s {ps : List Pt} (h : PkW ps) : (aH ps = 0 ∧ uH ps = 0 ∧ aD ps = 0) ∨ (aH ps = 13 ∧ 1 ≤ uH ps ∧ uH ps < (ps.length : Int) ∧ ¬ aD ps = 0 ∧ qV (aD ps) (q7 ps (kb7 (uH ps - 1))) = 0 ∧ aH (ka5 (kb7 (uH ps)) ps) = 0 ∧ uH (ka5 (kb7 (uH ps)) ps) = 0 ∧ aD (ka5 (kb7 (uH ps)) ps) = 0 ∧ aH (ka5 (kb7 (uH ps) + 1) ps) = 13 ∧ uH (ka5 (kb7 (uH ps) + 1) ps) = uH ps ∧ aD (ka5 (kb7 (uH ps) + 1) ps) = aD ps) := by
  rcases u7d h with ⟨_, a, b, c⟩ | ⟨X, hX, hk, hw, z, p, d, b1, b2⟩
  · exact .inl ⟨a, b, c⟩
  · rw [z, p, d, show kb7 ((X : Int) + 1 - 1) = X by omega, show kb7 ((X : Int) + 1) = X + 1 by omega]
    have l1 : (ka5 (X + 1) ps).length = X + 1 := by rw [kb0]; omega
    have l2 : (ka5 (X + 1 + 1) ps).length = X + 1 + 1 := by rw [kb0]; omega
    obtain ⟨_, t2, t3, t4⟩ := k7p (ps := ka5 (X + 1) ps) (i := X + 1) (h.take zo).v (by rw [k7t (kc3 _)]; exact hk) l1.symm
    obtain ⟨g1, _, _⟩ := k16 h (X + 1) hX
    have hl : (yZ ps (X + 1)).length = 0 := (of_decide_eq_true hw).resolve_left fun a => a g1
    obtain ⟨_, u2, u3, u4⟩ := mN (ps := ka5 (X + 1 + 1) ps) (i := X + 1) (h.take zo).v (by rw [k7t (by omega)]; exact hk) (by rw [l2]; omega) (by rw [k7v (by omega)]; exact g1) (by rw [n9 (by omega)]; exact hl)
    exact .inr ⟨rfl, by omega, by omega, b1, b2, t4, t2, t3, u4, by rw [u2]; omega, by rw [u3, u7g (by omega)]⟩
/-! ports out of dice -/
def e8 (l : List Int) : List Int := vB (kD l 2) (1 + kA l 2)
def jG (l : List Int) : List Bx := bbL (kD l 2) (1 + kA l 2)
def aI (l : List Int) : Nat → List Int
  | 0 => l
  | i + 1 => kD (e8 (aI l i)) 16
def qU (l : List Int) : Nat → List Pt
  | 0 => []
  | i + 1 => qU l i ++ [hZ (jG (aI l i)) ((kA (e8 (aI l i)) 16 : Nat) : Int)]
theorem tX {l : List Int} (h : Byt l) : Byt (e8 l) := gG (qR _ h) _
theorem dC {l : List Int} (h : Byt l) : ∀ i, Byt (aI l i)
  | 0 => h
  | i + 1 => qR _ (tX (dC h i))
theorem sL (l : List Int) : ∀ i, ka0 (qU l i) = i
  | 0 => rfl
  | i + 1 => by rw [qU, List.length_append, sL l i]; rfl
theorem v24 {l : List Int} (h : Byt l) : BsC 5 (jG l) := fun b hb => ⟨u53 (qR _ h) _ b hb, u54 (qR _ h) _ b hb⟩
theorem k3f {l : List Int} (h : Byt l) : 1 ≤ ka0 (jG l) ∧ ka0 (jG l) ≤ 2 := by
  unfold jG; rw [tY]
  have := uN l 2 h; omega
theorem k2a {l : List Int} (h : Byt l) : ∀ i, ∀ p ∈ qU l i, (1 ≤ p.bs.length ∧ p.bs.length ≤ 2) ∧ BsC 5 p.bs ∧ (0 ≤ p.cv ∧ p.cv ≤ 15)
  | 0, p, hp => (by cases hp)
  | i + 1, p, hp => by
    rcases List.mem_append.1 hp with hp | hp
    · exact k2a h i p hp
    · rw [List.mem_singleton.1 hp]
      refine ⟨k3f (dC h i), v24 (dC h i), ?_⟩
      have := uN (e8 (aI l i)) 16 (tX (dC h i))
      show 0 ≤ ((kA (e8 (aI l i)) 16 : Nat) : Int) ∧ ((kA (e8 (aI l i)) 16 : Nat) : Int) ≤ (15 : Int)
      omega
theorem v0a {l : List Int} (h : Byt l) {n : Nat} (hn : 1 ≤ n ∧ n ≤ 5) : PkW (qU l n) := ⟨by rw [sL]; exact hn, k2a h n⟩
theorem v39 {l : List Int} {i : Nat} {ps : List Pt} {c : Int} (h : qU l i = ps) (hc : c = ((kA (e8 (aI l i)) 16 : Nat) : Int)) : qU l (i + 1) = ps ++ [hZ (jG (aI l i)) c] := by
  subst h; subst hc; rfl
end Go.Proofs.YtbicifcgghmhaaaGreat
