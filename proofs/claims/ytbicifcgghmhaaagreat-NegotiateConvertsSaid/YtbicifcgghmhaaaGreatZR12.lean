/- Chains out of dice. No statement is proved here. -/
import Derived.Test.YtbicifcgghmhaaaGreatZN12
import Derived.Test.YtbicifcgghmhaaaGreatZL10G
namespace Go.Proofs.YtbicifcgghmhaaaGreat
open Go.ChangeShapes Go.WideShapes Go.ChangeAt Go.RowKit
open List renaming exists_mem_of_length_pos → kf4, length → ka0, range → kd3
open Nat renaming le_trans → ke0, mul_le_mul → kn3
set_option linter.unusedVariables false
set_option linter.unusedSimpArgs false
/-! chapter 12: chains out of dice: what is refused, and where -/
def PkW (ps : List Pt) : Prop := (1 ≤ ps.length ∧ ps.length ≤ 5) ∧ ∀ p ∈ ps, (1 ≤ p.bs.length ∧ p.bs.length ≤ 2) ∧ BsC 5 p.bs ∧ (0 ≤ p.cv ∧ p.cv ≤ 15)
theorem u6v {ps : List Pt} {i : Nat} (h : i < ps.length) : ptG ps i ∈ ps := by
  unfold ptG; rw [List.getD_eq_getElem?_getD, List.getElem?_eq_getElem h]; exact List.getElem_mem h
theorem PkW.at {ps : List Pt} (h : PkW ps) {i : Nat} (hi : i < ps.length) : (1 ≤ (q7 ps i).length ∧ (q7 ps i).length ≤ 2) ∧ BsC 5 (q7 ps i) ∧ (0 ≤ qP ps i ∧ qP ps i ≤ 15) := h.2 _ (u6v hi)
theorem PkW.w {ps : List Pt} (h : PkW ps) : PsW ps := fun p hp => ⟨(h.2 p hp).2.1.v.w, by have := (h.2 p hp).1; omega⟩
theorem PkW.v {ps : List Pt} (h : PkW ps) : dT ps = true := decide_eq_true ⟨h.1.1, by have := h.1.2; omega, fun i hi => by
  obtain ⟨h1, h2, h3⟩ := h.at hi
  exact u9d ⟨by omega, h3⟩ (h2.v.vb (by omega))⟩
theorem PkW.take {ps : List Pt} (h : PkW ps) {n : Nat} (h1 : 1 ≤ n) : PkW (List.take n ps) := ⟨by rw [List.length_take]; have := h.1; omega, fun p hp => h.2 p (List.mem_of_mem_take hp)⟩
theorem PkW.len {ps : List Pt} (h : PkW ps) : 1 ≤ ps.length ∧ ps.length ≤ 5 := h.1
/-! along a chain out of dice nothing is too much -/
theorem k62 {N : Nat} {xs : List Bx} (h : BsC N xs) (hn : xs.length ≤ 64) : BsC N (bE xs) ∧ (bE xs).length ≤ xs.length ∧ (1 ≤ xs.length → 1 ≤ (bE xs).length) := by
  obtain ⟨r1, r2, r3⟩ := k66 h.v hn
  refine ⟨fun b hb => ?_, nN _, fun h1 => ?_⟩
  · rw [r1] at hb
    obtain ⟨k, hk, _, rfl⟩ := (lC _).1 hb
    exact h _ (uP hk)
  · obtain ⟨b, hb⟩ := kf4 h1
    have hv := (h b hb).1
    have hh := (k19 hv).1 (tW hv.g ⟨0, 0, [], 0⟩).1
    obtain ⟨b', hb', _⟩ := (sB h.v hn _).2 ⟨b, hb, hh⟩
    exact List.length_pos_of_mem hb'
theorem k6h {i : Nat} (h : i + 1 ≤ 4) : 2 ^ (i + 1) ≤ 16 := ke0 (Nat.pow_le_pow_right (by decide) h) (by decide)
theorem n5 {ps : List Pt} (h : PkW ps) (i : Nat) : i < ps.length → fwE ps i = 0 ∧ BsC (5 * (i + 1)) (y3 ps i) ∧ (y3 ps i).length ≤ 2 ^ (i + 1) := by
  induction i with
  | zero =>
    intro hi
    obtain ⟨h1, h2, _⟩ := h.at hi
    obtain ⟨a, b, _⟩ := k62 h2 zo
    refine ⟨rfl, a.mono zo, ke0 b (ke0 h1.2 (by decide))⟩
  | succ i ih =>
    intro hi
    obtain ⟨h1, h2, _⟩ := h.at hi
    obtain ⟨g1, g2, g3⟩ := ih zo
    have h5 := h.1.2
    have hp : 2 ^ (i + 1) ≤ 16 := k6h (by omega)
    have hm : (q7 ps (i + 1)).length * (y3 ps i).length ≤ 2 * 2 ^ (i + 1) := kn3 h1.2 g3
    obtain ⟨e1, e2, e3, _⟩ := u45 (d := qP ps i) h2 g2 zo zo
    refine ⟨e1, e2.mono zo, ke0 e3 ?_⟩
    rw [Nat.pow_succ]; omega
/-! what is blamed has nothing that is converted -/
def agF : Bool := (kd3 16).all fun m => (kd3 16).all fun d => (decide (qH (m : Int) (d : Int) = 0) || decide (uO ((m : Int) - qH (m : Int) (d : Int)) < uO (m : Int) ∧ 0 ≤ (m : Int) - qH (m : Int) (d : Int) ∧ (m : Int) - qH (m : Int) (d : Int) ≤ 14)) && (kd3 16).all fun x => decide (qH (x : Int) (d : Int) = (d : Int)) == false || decide (qH (x : Int) ((m : Int) - qH (m : Int) (d : Int)) = (m : Int) - qH (m : Int) (d : Int)) == false || decide (qH (x : Int) (m : Int) = (m : Int))
theorem v2p : agF = true := by kernel_rfl
theorem v2r {m d : Int} (hm : 0 ≤ m ∧ m ≤ 15) (hd : 0 ≤ d ∧ d ≤ 15) : (qH m d = 0 ∨ (uO (m - qH m d) < uO m ∧ 0 ≤ m - qH m d ∧ m - qH m d ≤ 14)) ∧ ∀ x, 0 ≤ x ∧ x ≤ 15 → qH x d = d → qH x (m - qH m d) = m - qH m d → qH x m = m := by
  obtain ⟨m, rfl⟩ : ∃ n : Nat, m = (n : Int) := ⟨m.toNat, by omega⟩
  obtain ⟨d, rfl⟩ : ∃ n : Nat, d = (n : Int) := ⟨d.toNat, by omega⟩
  have M := fun {n k : Nat} (h : n < k) => List.mem_range.2 h
  have h := List.all_eq_true.1 (List.all_eq_true.1 v2p m (M (by omega))) d (M (by omega))
  rw [Bool.and_eq_true, Bool.or_eq_true, decide_eq_true_iff, decide_eq_true_iff] at h
  refine ⟨h.1, fun x hx e1 e2 => ?_⟩
  obtain ⟨x, rfl⟩ : ∃ n : Nat, x = (n : Int) := ⟨x.toNat, by omega⟩
  have h3 := List.all_eq_true.1 h.2 x (M (by omega))
  rw [decide_eq_true e1, decide_eq_true e2] at h3
  exact of_decide_eq_true h3
theorem u3g {l : List Int} {d : Int} (hd : 0 ≤ d ∧ d ≤ 15) (hn : 1 ≤ l.length) (hl : ∀ x ∈ l, (0 ≤ x ∧ x ≤ 15) ∧ qH x d = d ∧ ¬ x = 15) : ¬ cJ l l.length 14 = 0 ∧ qH (cJ l l.length 14) d = 0 := by
  obtain ⟨s1, s2⟩ := oA l l.length hn 14 (Nat.le_refl _)
  have hr := tU l l.length 14 (Nat.le_refl _)
  have hf : ∀ x ∈ l, ¬ qH x (cJ l l.length 14) = cJ l l.length 14 := fun x hx e => by
    rcases s1 with s1 | ⟨_, _, s1⟩
    · rw [s1] at e
      have a := (v2r (m := x) (d := 15) (hl x hx).1 (by omega)).1
      have b : qH x 15 = x := by
        have hx := (hl x hx).1
        obtain ⟨x, rfl⟩ : ∃ n : Nat, x = (n : Int) := ⟨x.toNat, by omega⟩
        have : ∀ n : Fin 16, qH (n.1 : Int) 15 = (n.1 : Int) := by decide +kernel
        exact this ⟨x, by omega⟩
      exact (hl x hx).2.2 (b.symm.trans e)
    · have := k71.2 ⟨x, hx, e⟩
      rw [this] at s1; cases s1
  obtain ⟨f1, f2⟩ := v2r hr hd
  have no : ¬ (uO (cJ l l.length 14 - qH (cJ l l.length 14) d) < uO (cJ l l.length 14) ∧ 0 ≤ cJ l l.length 14 - qH (cJ l l.length 14) d ∧ cJ l l.length 14 - qH (cJ l l.length 14) d ≤ 14) := fun ⟨g1, g2, g3⟩ => by
    have hx : ∀ x ∈ l, ¬ qH x (cJ l l.length 14 - qH (cJ l l.length 14) d) = cJ l l.length 14 - qH (cJ l l.length 14) d := fun x hx e => hf x hx (f2 x (hl x hx).1 (hl x hx).2.1 e)
    obtain ⟨x, hm⟩ := kf4 hn
    by_cases e : cJ l l.length 14 - qH (cJ l l.length 14) d = 0
    · refine hx x hm ?_
      rw [e]
      have hx := (hl x hm).1
      obtain ⟨x, rfl⟩ : ∃ n : Nat, x = (n : Int) := ⟨x.toNat, by omega⟩
      have : ∀ n : Fin 16, qH (n.1 : Int) 0 = 0 := by decide +kernel
      exact this ⟨x, by omega⟩
    · have hm : o4 l l.length (cJ l l.length 14 - qH (cJ l l.length 14) d) = false := by
        rw [← Bool.not_eq_true]; intro e
        obtain ⟨x, h1, h2⟩ := k71.1 e
        exact hx x h1 h2
      have := s2 _ (by omega) g3 hm
      omega
  refine ⟨?_, f1.resolve_right no⟩
  rcases s1 with s1 | s1 <;> omega
theorem u08 {ps : List Pt} (h : PkW ps) {i : Nat} (hi : i + 1 < ps.length) (hp : 1 ≤ (y3 ps i).length) (h0 : (y3 ps (i + 1)).length = 0) : ¬ fwB ps (i + 1) = 0 ∧ qH (fwB ps (i + 1)) (qP ps i) = 0 := by
  obtain ⟨h1, h2, _⟩ := h.at hi
  obtain ⟨_, _, h3⟩ := h.at (show i < ps.length by omega)
  obtain ⟨_, g2, g3⟩ := n5 h i zo
  have h5 := h.1.2
  have hp2 : 2 ^ (i + 1) ≤ 16 := k6h (by omega)
  have hm : (q7 ps (i + 1)).length * (y3 ps i).length ≤ 2 * 2 ^ (i + 1) := kn3 h1.2 g3
  obtain ⟨_, _, _, e4⟩ := u45 (d := qP ps i) h2 g2 zo zo
  have e5 := e4 h0
  have e : fwB ps (i + 1) = cJ (bpS (qP ps i) (q7 ps (i + 1)) (y3 ps i) (q7 ps (i + 1)).length) (bpS (qP ps i) (q7 ps (i + 1)) (y3 ps i) (q7 ps (i + 1)).length).length 14 := by
    show blN _ _ _ = _
    unfold blN
    rw [if_neg (by omega), v24 _ _ (by rw [tT]; exact Nat.mul_pos h1.1 hp)]
  rw [e]
  refine u3g h3 (by rw [tT]; exact Nat.mul_pos h1.1 hp) fun x hx => ?_
  obtain ⟨a, k, ha, hk, rfl⟩ := (u05 _).1 hx
  obtain ⟨s1, s2, s3⟩ := u6k h3 h2.v g2.v ha hk
  refine ⟨s1, s2, fun e15 => ?_⟩
  have hc := e5 a k ha hk
  have hc2 := (v1r (h2.v _ (uP ha)) (u1p (qP ps i) (h2.v _ (uP ha)) (g2.v _ (uP hk))).1).2 (s3.1 e15)
  rw [hc] at hc2; cases hc2
/-! the law -/
theorem u2g {p : Nat → Bool} {k : Nat} (h : 0 ≤ lZ p k) (m : Nat) : lZ p (k + m) = lZ p k := by
  induction m with
  | zero => rfl
  | succ m ih =>
    show (if 0 ≤ lZ p (k + m) then lZ p (k + m) else if p (k + m) = true then ((k + m : Nat) : Int) else -1) = _
    rw [ih, if_pos h]
theorem u7t {ps : List Pt} (h : PkW ps) : (tC ps ps.length = -1 ∧ vE ps = 0 ∧ fA ps = 0 ∧ fB ps = 0) ∨ ∃ X, X + 1 < ps.length ∧ tC ps (X + 1) = -1 ∧ wdB ps (X + 1) = true ∧ vE ps = 13 ∧ fA ps = (X : Int) + 1 ∧ fB ps = fwB ps (X + 1) ∧ ¬ fwB ps (X + 1) = 0 ∧ qH (fwB ps (X + 1)) (qP ps X) = 0 := by
  rcases gA (wdB ps) ps.length with ⟨h1, _⟩ | ⟨k, hk, h1, h2⟩
  · obtain ⟨_, a, b, c⟩ := u4t h.v h1 rfl
    exact .inl ⟨h1, c, a, b⟩
  · have hkm : tC ps k = -1 := by
      rcases gA (wdB ps) k with ⟨h3, _⟩ | ⟨j, hj, h3, _⟩
      · exact h3
      · have h4 := u2g (p := wdB ps) (k := k) (by omega) (ps.length - k)
        rw [show k + (ps.length - k) = ps.length by omega, h1, h3] at h4
        omega
    obtain ⟨g1, _, _⟩ := n5 h k hk
    have hl : (y3 ps k).length = 0 := (of_decide_eq_true h2).resolve_left fun a => a g1
    obtain ⟨_, p, d, z⟩ := tB h.v hkm hk g1 hl
    match k, hk, h1, h2, hkm, g1, hl, p, d, z with
    | 0, hk, h1, h2, hkm, g1, hl, p, d, z =>
      obtain ⟨q1, q2, _⟩ := h.at hk
      have := (k62 q2 (by omega)).2.2 q1.1
      have hl : (bE (q7 ps 0)).length = 0 := hl
      omega
    | X + 1, hk, h1, h2, hkm, g1, hl, p, d, z =>
      have hp : 1 ≤ (y3 ps X).length := by
        have : wdB ps X = false := by
          have hkm : (if 0 ≤ tC ps X then tC ps X else if wdB ps X = true then (X : Int) else -1) = -1 := hkm
          by_cases c : 0 ≤ tC ps X
          · rw [if_pos c] at hkm; omega
          · rw [if_neg c] at hkm
            by_cases c2 : wdB ps X = true
            · rw [if_pos c2] at hkm; omega
            · exact Bool.not_eq_true _ ▸ c2
        have := of_decide_eq_false this
        by_cases c : (y3 ps X).length = 0
        · exact absurd (.inr c) this
        · omega
      obtain ⟨b1, b2⟩ := u08 h hk hp hl
      exact .inr ⟨X, hk, hkm, h2, z, by rw [p]; omega, d, b1, b2⟩
/-! ports out of dice -/
def eY (l : List Int) : List Int := y6 (kC l 2) (1 + kA l 2)
def jD (l : List Int) : List Bx := bbL (kC l 2) (1 + kA l 2)
def aF (l : List Int) : Nat → List Int
  | 0 => l
  | i + 1 => kC (eY (aF l i)) 16
def uI (l : List Int) : Nat → List Pt
  | 0 => []
  | i + 1 => uI l i ++ [e8 (jD (aF l i)) ((kA (eY (aF l i)) 16 : Nat) : Int)]
theorem tX {l : List Int} (h : Byt l) : Byt (eY l) := gG (qR _ h) _
theorem dA {l : List Int} (h : Byt l) : ∀ i, Byt (aF l i)
  | 0 => h
  | i + 1 => qR _ (tX (dA h i))
theorem sG (l : List Int) : ∀ i, ka0 (uI l i) = i
  | 0 => rfl
  | i + 1 => by rw [uI, List.length_append, sG l i]; rfl
theorem v2g {l : List Int} (h : Byt l) : BsC 5 (jD l) := fun b hb => ⟨u5k (qR _ h) _ b hb, u5l (qR _ h) _ b hb⟩
theorem k3k {l : List Int} (h : Byt l) : 1 ≤ ka0 (jD l) ∧ ka0 (jD l) ≤ 2 := by
  unfold jD; rw [tY]
  have := uK l 2 h; omega
theorem k2e {l : List Int} (h : Byt l) : ∀ i, ∀ p ∈ uI l i, (1 ≤ p.bs.length ∧ p.bs.length ≤ 2) ∧ BsC 5 p.bs ∧ (0 ≤ p.cv ∧ p.cv ≤ 15)
  | 0, p, hp => (by cases hp)
  | i + 1, p, hp => by
    rcases List.mem_append.1 hp with hp | hp
    · exact k2e h i p hp
    · rw [List.mem_singleton.1 hp]
      refine ⟨k3k (dA h i), v2g (dA h i), ?_⟩
      have := uK (eY (aF l i)) 16 (tX (dA h i))
      show 0 ≤ ((kA (eY (aF l i)) 16 : Nat) : Int) ∧ ((kA (eY (aF l i)) 16 : Nat) : Int) ≤ (15 : Int)
      omega
theorem v0l {l : List Int} (h : Byt l) {n : Nat} (hn : 1 ≤ n ∧ n ≤ 5) : PkW (uI l n) := ⟨by rw [sG]; exact hn, k2e h n⟩
theorem v3o {l : List Int} {i : Nat} {ps : List Pt} {c : Int} (h : uI l i = ps) (hc : c = ((kA (eY (aF l i)) 16 : Nat) : Int)) : uI l (i + 1) = ps ++ [e8 (jD (aF l i)) c] := by
  subst h; subst hc; rfl
end Go.Proofs.YtbicifcgghmhaaaGreat
