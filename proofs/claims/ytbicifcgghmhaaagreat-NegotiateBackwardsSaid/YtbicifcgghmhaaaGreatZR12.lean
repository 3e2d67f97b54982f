/- Chains out of dice. No statement is proved here. -/
import Derived.Test.YtbicifcgghmhaaaGreatZN12
import Derived.Test.YtbicifcgghmhaaaGreatZL10G
namespace Go.Proofs.YtbicifcgghmhaaaGreat
open Go.ChangeShapes Go.WideShapes Go.ChangeAt Go.RowKit
open List renaming exists_mem_of_length_pos → kf2, getD_eq_getElem?_getD → ka6, length → ka0, range → kd0
open Nat renaming le_refl → kb9, le_trans → ke0, mul_le_mul → kj7
set_option linter.unusedVariables false
set_option linter.unusedSimpArgs false
/-! chapter 12: chains out of dice: what is refused, and where -/
def pdN (ps : List Pt) : Nat → Nat
  | 0 => (qF ps 0).length
  | i + 1 => (qF ps (i + 1)).length * pdN ps i
def PkG (ps : List Pt) : Prop := (1 ≤ ps.length ∧ ps.length ≤ 6) ∧ (∀ p ∈ ps, (1 ≤ p.bs.length ∧ p.bs.length ≤ 8) ∧ BsC 5 p.bs ∧ (0 ≤ p.cv ∧ p.cv ≤ 15)) ∧ ∀ i, i < ps.length → pdN ps i ≤ 64
def PkW (ps : List Pt) : Prop := (1 ≤ ps.length ∧ ps.length ≤ 5) ∧ ∀ p ∈ ps, (1 ≤ p.bs.length ∧ p.bs.length ≤ 2) ∧ BsC 5 p.bs ∧ (0 ≤ p.cv ∧ p.cv ≤ 15)
theorem zU {ps : List Pt} {i : Nat} (h : i < ps.length) : i9 ps i ∈ ps := by
  unfold i9; rw [ka6, List.getElem?_eq_getElem h]; exact List.getElem_mem h
theorem PkG.at {ps : List Pt} (h : PkG ps) {i : Nat} (hi : i < ps.length) : (1 ≤ (qF ps i).length ∧ (qF ps i).length ≤ 8) ∧ BsC 5 (qF ps i) ∧ (0 ≤ q6 ps i ∧ q6 ps i ≤ 15) := h.2.1 _ (zU hi)
theorem PkW.at {ps : List Pt} (h : PkW ps) {i : Nat} (hi : i < ps.length) : (1 ≤ (qF ps i).length ∧ (qF ps i).length ≤ 2) ∧ BsC 5 (qF ps i) ∧ (0 ≤ q6 ps i ∧ q6 ps i ≤ 15) := h.2 _ (zU hi)
theorem PkG.w {ps : List Pt} (h : PkG ps) : PsW ps := fun p hp => ⟨(h.2.1 p hp).2.1.v.w, by have := (h.2.1 p hp).1; omega⟩
theorem PkG.v {ps : List Pt} (h : PkG ps) : cM ps = true := decide_eq_true ⟨h.1.1, by have := h.1.2; omega, fun i hi => by
  obtain ⟨h1, h2, h3⟩ := h.at hi
  exact u8r ⟨by omega, h3⟩ (h2.v.vb (by omega))⟩
theorem v3t {ps : List Pt} (i : Nat) : (∀ j, j ≤ i → (qF ps j).length ≤ 2) → pdN ps i ≤ 2 ^ (i + 1) := by
  induction i with
  | zero => exact fun h => ke0 (h 0 (kb9 0)) (by decide)
  | succ i ih =>
    intro h
    rw [Nat.pow_succ, Nat.mul_comm]
    exact kj7 (h (i + 1) (kb9 _)) (ih fun j hj => h j (by omega))
theorem v07 {i : Nat} (h : i + 1 ≤ 6) : 2 ^ (i + 1) ≤ 64 := ke0 (Nat.pow_le_pow_right (by decide) h) (by decide)
theorem s8 {ps : List Pt} (h1 : 1 ≤ ps.length ∧ ps.length ≤ 6) (h2 : ∀ p ∈ ps, (1 ≤ p.bs.length ∧ p.bs.length ≤ 2) ∧ BsC 5 p.bs ∧ (0 ≤ p.cv ∧ p.cv ≤ 15)) : PkG ps :=
  ⟨h1, fun p hp => ⟨by have := (h2 p hp).1; omega, (h2 p hp).2⟩, fun i hi => ke0 (v3t i fun j hj => (h2 _ (zU (i := j) (by omega))).1.2) (v07 (by omega))⟩
theorem PkW.g {ps : List Pt} (h : PkW ps) : PkG ps := s8 (by have := h.1; omega) h.2
theorem PkW.w {ps : List Pt} (h : PkW ps) : PsW ps := h.g.w
theorem PkW.take {ps : List Pt} (h : PkW ps) {n : Nat} (h1 : 1 ≤ n) : PkW (List.take n ps) := ⟨by rw [List.length_take]; have := h.1; omega, fun p hp => h.2 p (List.mem_of_mem_take hp)⟩
/-! the same ports, fewer -/
theorem u9y {ps : List Pt} {n i : Nat} (h : i < n) : i9 (List.take n ps) i = i9 ps i := by
  unfold i9; rw [ka6, ka6, List.getElem?_take_of_lt h]
/-! along a chain out of dice nothing is too much -/
theorem k56 {N : Nat} {xs : List Bx} (h : BsC N xs) (hn : xs.length ≤ 64) : BsC N (aZ xs) ∧ (aZ xs).length ≤ xs.length ∧ (1 ≤ xs.length → 1 ≤ (aZ xs).length) := by
  obtain ⟨r1, r2, r3⟩ := k5a h.v hn
  refine ⟨fun b hb => ?_, mH _, fun h1 => ?_⟩
  · rw [r1] at hb
    obtain ⟨k, hk, _, rfl⟩ := (i7 _).1 hb
    exact h _ (qR hk)
  · obtain ⟨b, hb⟩ := kf2 h1
    have hv := (h b hb).1
    have hh := (mU hv).1 (lP hv.g ⟨0, 0, [], 0⟩).1
    obtain ⟨b', hb', _⟩ := (pV h.v hn _).2 ⟨b, hb, hh⟩
    exact List.length_pos_of_mem hb'
theorem gF {ps : List Pt} (h : PkG ps) (i : Nat) : i < ps.length → fwE ps i = 0 ∧ BsC (5 * (i + 1)) (yF ps i) ∧ (yF ps i).length ≤ pdN ps i := by
  induction i with
  | zero =>
    intro hi
    obtain ⟨h1, h2, _⟩ := h.at hi
    obtain ⟨a, b, _⟩ := k56 h2 zo
    exact ⟨rfl, a.mono (by omega), b⟩
  | succ i ih =>
    intro hi
    obtain ⟨h1, h2, _⟩ := h.at hi
    obtain ⟨g1, g2, g3⟩ := ih zo
    have h5 := h.1.2
    have hm : (qF ps (i + 1)).length * (yF ps i).length ≤ pdN ps (i + 1) := kj7 (kb9 _) g3
    have hp := h.2.2 _ hi
    obtain ⟨e1, e2, e3, _⟩ := u3g (d := q6 ps i) h2 g2 zo zo
    exact ⟨e1, e2.mono (by omega), ke0 e3 hm⟩
/-! what is blamed has nothing that is converted -/
def agF : Bool := (kd0 16).all fun m => (kd0 16).all fun d => (decide (qG (m : Int) (d : Int) = 0) || decide (uG ((m : Int) - qG (m : Int) (d : Int)) < uG (m : Int) ∧ 0 ≤ (m : Int) - qG (m : Int) (d : Int) ∧ (m : Int) - qG (m : Int) (d : Int) ≤ 14)) && (kd0 16).all fun x => decide (qG (x : Int) (d : Int) = (d : Int)) == false || decide (qG (x : Int) ((m : Int) - qG (m : Int) (d : Int)) = (m : Int) - qG (m : Int) (d : Int)) == false || decide (qG (x : Int) (m : Int) = (m : Int))
theorem v2e : agF = true := by kernel_rfl
theorem v2g {m d : Int} (hm : 0 ≤ m ∧ m ≤ 15) (hd : 0 ≤ d ∧ d ≤ 15) : (qG m d = 0 ∨ (uG (m - qG m d) < uG m ∧ 0 ≤ m - qG m d ∧ m - qG m d ≤ 14)) ∧ ∀ x, 0 ≤ x ∧ x ≤ 15 → qG x d = d → qG x (m - qG m d) = m - qG m d → qG x m = m := by
  obtain ⟨m, rfl⟩ : ∃ n : Nat, m = (n : Int) := ⟨m.toNat, by omega⟩
  obtain ⟨d, rfl⟩ : ∃ n : Nat, d = (n : Int) := ⟨d.toNat, by omega⟩
  have M := fun {n k : Nat} (h : n < k) => List.mem_range.2 h
  have h := List.all_eq_true.1 (List.all_eq_true.1 v2e m (M (by omega))) d (M (by omega))
  rw [Bool.and_eq_true, Bool.or_eq_true, decide_eq_true_iff, decide_eq_true_iff] at h
  refine ⟨h.1, fun x hx e1 e2 => ?_⟩
  obtain ⟨x, rfl⟩ : ∃ n : Nat, x = (n : Int) := ⟨x.toNat, by omega⟩
  have h3 := List.all_eq_true.1 h.2 x (M (by omega))
  rw [decide_eq_true e1, decide_eq_true e2] at h3
  exact of_decide_eq_true h3
theorem u2n {l : List Int} {d : Int} (hd : 0 ≤ d ∧ d ≤ 15) (hn : 1 ≤ l.length) (hl : ∀ x ∈ l, (0 ≤ x ∧ x ≤ 15) ∧ qG x d = d ∧ ¬ x = 15) : ¬ bX l l.length 14 = 0 ∧ qG (bX l l.length 14) d = 0 := by
  obtain ⟨s1, s2⟩ := m5 l l.length hn 14 (kb9 _)
  have hr := sQ l l.length 14 (kb9 _)
  have hf : ∀ x ∈ l, ¬ qG x (bX l l.length 14) = bX l l.length 14 := fun x hx e => by
    rcases s1 with s1 | ⟨_, _, s1⟩
    · rw [s1] at e
      have a := (v2g (m := x) (d := 15) (hl x hx).1 (by omega)).1
      have b : qG x 15 = x := by
        have hx := (hl x hx).1
        obtain ⟨x, rfl⟩ : ∃ n : Nat, x = (n : Int) := ⟨x.toNat, by omega⟩
        have : ∀ n : Fin 16, qG (n.1 : Int) 15 = (n.1 : Int) := by decide +kernel
        exact this ⟨x, by omega⟩
      exact (hl x hx).2.2 (b.symm.trans e)
    · have := k68.2 ⟨x, hx, e⟩
      rw [this] at s1; cases s1
  obtain ⟨f1, f2⟩ := v2g hr hd
  have no : ¬ (uG (bX l l.length 14 - qG (bX l l.length 14) d) < uG (bX l l.length 14) ∧ 0 ≤ bX l l.length 14 - qG (bX l l.length 14) d ∧ bX l l.length 14 - qG (bX l l.length 14) d ≤ 14) := fun ⟨g1, g2, g3⟩ => by
    have hx : ∀ x ∈ l, ¬ qG x (bX l l.length 14 - qG (bX l l.length 14) d) = bX l l.length 14 - qG (bX l l.length 14) d := fun x hx e => hf x hx (f2 x (hl x hx).1 (hl x hx).2.1 e)
    obtain ⟨x, hm⟩ := kf2 hn
    by_cases e : bX l l.length 14 - qG (bX l l.length 14) d = 0
    · refine hx x hm ?_
      rw [e]
      have hx := (hl x hm).1
      obtain ⟨x, rfl⟩ : ∃ n : Nat, x = (n : Int) := ⟨x.toNat, by omega⟩
      have : ∀ n : Fin 16, qG (n.1 : Int) 0 = 0 := by decide +kernel
      exact this ⟨x, by omega⟩
    · have hm : nQ l l.length (bX l l.length 14 - qG (bX l l.length 14) d) = false := by
        rw [← Bool.not_eq_true]; intro e
        obtain ⟨x, h1, h2⟩ := k68.1 e
        exact hx x h1 h2
      have := s2 _ (by omega) g3 hm
      omega
  refine ⟨?_, f1.resolve_right no⟩
  rcases s1 with s1 | s1 <;> omega
theorem k9f {ps : List Pt} (h : PkG ps) {i : Nat} (hi : i + 1 < ps.length) (hp : 1 ≤ (yF ps i).length) (h0 : (yF ps (i + 1)).length = 0) : ¬ fwB ps (i + 1) = 0 ∧ qG (fwB ps (i + 1)) (q6 ps i) = 0 := by
  obtain ⟨h1, h2, _⟩ := h.at hi
  obtain ⟨_, _, h3⟩ := h.at (show i < ps.length by omega)
  obtain ⟨_, g2, g3⟩ := gF h i zo
  have h5 := h.1.2
  have hm : (qF ps (i + 1)).length * (yF ps i).length ≤ pdN ps (i + 1) := kj7 (kb9 _) g3
  have hp2 := h.2.2 _ hi
  obtain ⟨_, _, _, e4⟩ := u3g (d := q6 ps i) h2 g2 zo zo
  have e5 := e4 h0
  have e : fwB ps (i + 1) = bX (bpS (q6 ps i) (qF ps (i + 1)) (yF ps i) (qF ps (i + 1)).length) (bpS (q6 ps i) (qF ps (i + 1)) (yF ps i) (qF ps (i + 1)).length).length 14 := by
    show blN _ _ _ = _
    unfold blN
    rw [if_neg (by omega), v1v _ _ (by rw [sP]; exact Nat.mul_pos h1.1 hp)]
  rw [e]
  refine u2n h3 (by rw [sP]; exact Nat.mul_pos h1.1 hp) fun x hx => ?_
  obtain ⟨a, k, ha, hk, rfl⟩ := (k9c _).1 hx
  obtain ⟨s1, s2, s3⟩ := u60 h3 h2.v g2.v ha hk
  refine ⟨s1, s2, fun e15 => ?_⟩
  have hc := e5 a k ha hk
  have hc2 := (v1k (h2.v _ (qR ha)) (k66 (q6 ps i) (h2.v _ (qR ha)) (g2.v _ (qR hk))).1).2 (s3.1 e15)
  rw [hc] at hc2; cases hc2
/-! the law -/
theorem u1o {p : Nat → Bool} {k : Nat} (h : 0 ≤ jV p k) (m : Nat) : jV p (k + m) = jV p k := by
  induction m with
  | zero => rfl
  | succ m ih =>
    show (if 0 ≤ jV p (k + m) then jV p (k + m) else if p (k + m) = true then ((k + m : Nat) : Int) else -1) = _
    rw [ih, if_pos h]
theorem k77 {ps : List Pt} (h : PkG ps) : (oX ps ps.length = -1 ∧ uK ps = 0 ∧ cK ps = 0 ∧ cL ps = 0) ∨ ∃ X, X + 1 < ps.length ∧ oX ps (X + 1) = -1 ∧ xX ps (X + 1) = true ∧ uK ps = 13 ∧ cK ps = (X : Int) + 1 ∧ cL ps = fwB ps (X + 1) ∧ ¬ fwB ps (X + 1) = 0 ∧ qG (fwB ps (X + 1)) (q6 ps X) = 0 := by
  rcases fI (xX ps) ps.length with ⟨h1, _⟩ | ⟨k, hk, h1, h2⟩
  · obtain ⟨_, a, b, c⟩ := u3x h.v h1 rfl
    exact .inl ⟨h1, c, a, b⟩
  · have hkm : oX ps k = -1 := by
      rcases fI (xX ps) k with ⟨h3, _⟩ | ⟨j, hj, h3, _⟩
      · exact h3
      · have h4 := u1o (p := xX ps) (k := k) (by omega) (ps.length - k)
        rw [show k + (ps.length - k) = ps.length by omega, h1, h3] at h4
        omega
    obtain ⟨g1, _, _⟩ := gF h k hk
    have hl : (yF ps k).length = 0 := (of_decide_eq_true h2).resolve_left fun a => a g1
    obtain ⟨_, p, d, z⟩ := r7 h.v hkm hk g1 hl
    match k, hk, h1, h2, hkm, g1, hl, p, d, z with
    | 0, hk, h1, h2, hkm, g1, hl, p, d, z =>
      obtain ⟨q1, q2, _⟩ := h.at hk
      have := (k56 q2 (by omega)).2.2 q1.1
      have hl : (aZ (qF ps 0)).length = 0 := hl
      omega
    | X + 1, hk, h1, h2, hkm, g1, hl, p, d, z =>
      have hp : 1 ≤ (yF ps X).length := by
        have : xX ps X = false := by
          have hkm : (if 0 ≤ oX ps X then oX ps X else if xX ps X = true then (X : Int) else -1) = -1 := hkm
          by_cases c : 0 ≤ oX ps X
          · rw [if_pos c] at hkm; omega
          · rw [if_neg c] at hkm
            by_cases c2 : xX ps X = true
            · rw [if_pos c2] at hkm; omega
            · exact Bool.not_eq_true _ ▸ c2
        have := of_decide_eq_false this
        by_cases c : (yF ps X).length = 0
        · exact absurd (.inr c) this
        · omega
      obtain ⟨b1, b2⟩ := k9f h hk hp hl
      exact .inr ⟨X, hk, hkm, h2, z, by rw [p]; omega, d, b1, b2⟩
/-! ports out of dice -/
def d9 (l : List Int) : List Int := yS (kC l 2) (1 + kD l 2)
def jX (l : List Int) : List Bx := bbL (kC l 2) (1 + kD l 2)
def aD (l : List Int) : Nat → List Int
  | 0 => l
  | i + 1 => kC (d9 (aD l i)) 16
def poL (l : List Int) : Nat → List Pt
  | 0 => []
  | i + 1 => poL l i ++ [u0 (jX (aD l i)) ((kD (d9 (aD l i)) 16 : Nat) : Int)]
theorem sS {l : List Int} (h : Byt l) : Byt (d9 l) := fN (qI _ h) _
theorem cP {l : List Int} (h : Byt l) : ∀ i, Byt (aD l i)
  | 0 => h
  | i + 1 => qI _ (sS (cP h i))
theorem p8 (l : List Int) : ∀ i, ka0 (poL l i) = i
  | 0 => rfl
  | i + 1 => by rw [poL, List.length_append, p8 l i]; rfl
theorem v29 {l : List Int} (h : Byt l) : BsC 5 (jX l) := fun b hb => ⟨u51 (qI _ h) _ b hb, u52 (qI _ h) _ b hb⟩
theorem k2j {l : List Int} (h : Byt l) : 1 ≤ ka0 (jX l) ∧ ka0 (jX l) ≤ 2 := by
  unfold jX; rw [sT]
  have := q8 l 2 h; omega
theorem k1b {l : List Int} (h : Byt l) : ∀ i, ∀ p ∈ poL l i, (1 ≤ p.bs.length ∧ p.bs.length ≤ 2) ∧ BsC 5 p.bs ∧ (0 ≤ p.cv ∧ p.cv ≤ 15)
  | 0, p, hp => (by cases hp)
  | i + 1, p, hp => by
    rcases List.mem_append.1 hp with hp | hp
    · exact k1b h i p hp
    · rw [List.mem_singleton.1 hp]
      refine ⟨k2j (cP h i), v29 (cP h i), ?_⟩
      have := q8 (d9 (aD l i)) 16 (sS (cP h i))
      show 0 ≤ ((kD (d9 (aD l i)) 16 : Nat) : Int) ∧ ((kD (d9 (aD l i)) 16 : Nat) : Int) ≤ (15 : Int)
      omega
theorem v05 {l : List Int} (h : Byt l) {n : Nat} (hn : 1 ≤ n ∧ n ≤ 5) : PkW (poL l n) := ⟨by rw [p8]; exact hn, k1b h n⟩
theorem v3r {l : List Int} {i : Nat} {ps : List Pt} {c : Int} (h : poL l i = ps) (hc : c = ((kD (d9 (aD l i)) 16 : Nat) : Int)) : poL l (i + 1) = ps ++ [u0 (jX (aD l i)) c] := by
  subst h; subst hc; rfl
end Go.Proofs.YtbicifcgghmhaaaGreat
