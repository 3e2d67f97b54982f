/- Merged texts. -/
import Derived.Test.YtbicifcgghmhaaaGreatZR12
import Derived.Test.YtbicifcgghmhaaaGreatZL12F
namespace Go.Proofs.YtbicifcgghmhaaaGreat
open Go.ChangeShapes Go.WideShapes Go.ChangeAt Go.RowKit
set_option linter.unusedVariables false
set_option linter.unusedSimpArgs false
/-! chapter 12: what is reached, by choices -/
def AgP (d : Int) (c c' : Co) : Prop := (qG d 1 = 0 → c.k = c'.k) ∧ (qG d 2 = 0 → c.r = c'.r) ∧ (qG d 4 = 0 → c.m = c'.m) ∧ (qG d 8 = 0 → c.s = c'.s)
theorem AgP.symm {d : Int} {a b : Co} (h : AgP d a b) : AgP d b a := ⟨fun e => (h.1 e).symm, fun e => (h.2.1 e).symm, fun e => (h.2.2.1 e).symm, fun e => (h.2.2.2 e).symm⟩
theorem AgP.refl (d : Int) (a : Co) : AgP d a a := ⟨fun _ => rfl, fun _ => rfl, fun _ => rfl, fun _ => rfl⟩
theorem u4u {y : Bx} (h : BxV y) : ∃ p, HC y p := ⟨_, (mU h).1 (lP h.g ⟨0, 0, [], 0⟩).1⟩
theorem v0y {xs : List Bx} (h : BsV xs) (h1 : 1 ≤ xs.length) : ∃ p, LCo xs p := by
  obtain ⟨b, hb⟩ := List.exists_mem_of_length_pos h1
  obtain ⟨p, hp⟩ := u4u (h b hb)
  exact ⟨p, b, hb, hp⟩
theorem k00 {xs : List Bx} {p : Co} (h : LCo xs p) : 1 ≤ xs.length := by
  obtain ⟨b, hb, _⟩ := h
  exact List.length_pos_of_mem hb
theorem k1p {d : Int} {x y : Bx} (hy : BxV y) {c : Co} (hx : HC x c) : HC (cA d x y) c ↔ ∃ c', HC y c' ∧ AgP d c c' := by
  obtain ⟨x1, x2, x3, x4⟩ := hx
  constructor
  · rintro ⟨h1, h2, h3, h4⟩
    obtain ⟨p, p1, p2, p3, p4⟩ := u4u hy
    refine ⟨⟨if qG d 1 = 0 then c.k else p.k, if qG d 2 = 0 then c.r else p.r, if qG d 4 = 0 then c.m else p.m, if qG d 8 = 0 then c.s else p.s⟩, ⟨?_, ?_, ?_, ?_⟩, fun e => (if_pos e).symm, fun e => (if_pos e).symm, fun e => (if_pos e).symm, fun e => (if_pos e).symm⟩
    · show 1 ≤ (if qG d 1 = 0 then c.k else p.k) ∧ (if qG d 1 = 0 then c.k else p.k) ≤ 7 ∧ gE y.k (if qG d 1 = 0 then c.k else p.k).toNat = true
      have h1 : 1 ≤ c.k ∧ c.k ≤ 7 ∧ gE (if qG d 1 = 0 then y.k else x.k) c.k.toNat = true := h1
      by_cases e : qG d 1 = 0
      · rw [if_pos e] at h1 ⊢; exact h1
      · rw [if_neg e]; exact p1
    · show aW y.r (if qG d 2 = 0 then c.r else p.r) = true
      have h2 : aW (if qG d 2 = 0 then y.r else x.r) c.r = true := h2
      by_cases e : qG d 2 = 0
      · rw [if_pos e] at h2 ⊢; exact h2
      · rw [if_neg e]; exact p2
    · show (if qG d 4 = 0 then c.m else p.m) ∈ y.m
      have h3 : c.m ∈ (if qG d 4 = 0 then y.m else x.m) := h3
      by_cases e : qG d 4 = 0
      · rw [if_pos e] at h3 ⊢; exact h3
      · rw [if_neg e]; exact p3
    · show aW y.s (if qG d 8 = 0 then c.s else p.s) = true
      have h4 : aW (if qG d 8 = 0 then y.s else x.s) c.s = true := h4
      by_cases e : qG d 8 = 0
      · rw [if_pos e] at h4 ⊢; exact h4
      · rw [if_neg e]; exact p4
  · rintro ⟨p, ⟨p1, p2, p3, p4⟩, a1, a2, a3, a4⟩
    refine ⟨?_, ?_, ?_, ?_⟩
    · show 1 ≤ c.k ∧ c.k ≤ 7 ∧ gE (if qG d 1 = 0 then y.k else x.k) c.k.toNat = true
      by_cases e : qG d 1 = 0
      · rw [if_pos e, a1 e]; exact p1
      · rw [if_neg e]; exact x1
    · show aW (if qG d 2 = 0 then y.r else x.r) c.r = true
      by_cases e : qG d 2 = 0
      · rw [if_pos e, a2 e]; exact p2
      · rw [if_neg e]; exact x2
    · show c.m ∈ (if qG d 4 = 0 then y.m else x.m)
      by_cases e : qG d 4 = 0
      · rw [if_pos e, a3 e]; exact p3
      · rw [if_neg e]; exact x3
    · show aW (if qG d 8 = 0 then y.s else x.s) c.s = true
      by_cases e : qG d 8 = 0
      · rw [if_pos e, a4 e]; exact p4
      · rw [if_neg e]; exact x4
theorem k6v {x z : Bx} (hx : BxV x) (hz : BxV z) (h1 : x.rn + z.rn < 64) (h2 : x.sn + z.sn < 64) (c : Co) : LCo (yE [x] [z]) c ↔ HC x c ∧ HC z c := by
  have vx := (BsV.one hx).vb (by show 1 ≤ 64; decide)
  have vz := (BsV.one hz).vb (by show 1 ≤ 64; decide)
  have hs : crS [x] [z] 0 0 = true := u5o (rP hx.1.1 hz.1.1 h1) (rP hx.1.2.1 hz.1.2.1 h2)
  have hk := u2a hx hz (by omega) (by omega) c
  cases hc : x6 [x] [z] 0 0 with
  | false =>
    obtain ⟨e1, _⟩ := k6u vx vz (((CI.zero [x] [z]).in.n hc).out rfl) rfl
    rw [e1, show aZ ([] : List Bx) = [] from rfl]
    have hc : okX (crX x z) = false := hc
    rw [hc] at hk
    exact ⟨fun ⟨b, hb, _⟩ => (by cases hb), fun h => absurd (hk.2 h).1 (by decide)⟩
  | true =>
    obtain ⟨e1, _⟩ := k6u vx vz (((CI.zero [x] [z]).in.y hc hs (by decide)).out rfl) rfl
    have hv : BxV (crB [x] [z] 0 0) := u4j hx hz hc
    have r1 := (k55 (xs := [] ++ [crB [x] [z] 0 0]) rfl ((BsV.one hv).vb (by show 1 ≤ 64; decide))).1
    rw [e1, r1]
    have hc : okX (crX x z) = true := hc
    exact ⟨fun ⟨b, hb, h⟩ => hk.1 ⟨hc, by rw [List.mem_singleton.1 hb] at h; exact h⟩, fun h => ⟨_, List.mem_singleton.2 rfl, (hk.2 h).2⟩⟩
theorem lG {xs : List Bx} {x : Bx} (h : x ∈ xs) : ∃ i, i < xs.length ∧ u9 xs i = x := by
  obtain ⟨i, hi, rfl⟩ := List.mem_iff_getElem.1 h
  exact ⟨i, hi, by unfold u9; rw [List.getD_eq_getElem?_getD, List.getElem?_eq_getElem hi]; rfl⟩
theorem u67 {d : Int} {N M : Nat} {xs ys : List Bx} (h : BsC N xs) (h2 : BsC M ys) (hN : N + max N M < 64) (hn : xs.length * ys.length ≤ 64) (c : Co) : LCo (bT d xs ys) c ↔ LCo xs c ∧ ∃ c', LCo ys c' ∧ AgP d c c' := by
  obtain ⟨h3, h4⟩ := k51 (d := d) h h2 hN hn xs.length (Nat.le_refl _)
  have hC : BsC (N + max N M) (nK d xs ys xs.length) := fun b hb => by
    obtain ⟨i, j, hi, hj, h5⟩ := (i0 _).1 hb
    exact (jC h h2 hN hi hj).2.1 b h5
  have e1 : bT d xs ys = aZ (nK d xs ys xs.length) := by unfold bT; rw [h3]; rfl
  have hm : ∀ i j, i < xs.length → j < ys.length → (LCo (lF d xs ys i j) c ↔ HC (u9 xs i) c ∧ HC (cA d (u9 xs i) (u9 ys j)) c) := fun i j hi hj => by
    obtain ⟨a1, a2, a3⟩ := h _ (qR hi)
    obtain ⟨b1, b2, b3⟩ := h2 _ (qR hj)
    obtain ⟨z1, z2, z3⟩ := k66 d a1 b1
    exact k6v a1 z1 (by omega) (by omega) c
  rw [e1, pV hC.v (by omega)]
  constructor
  · rintro ⟨b, hb, hc⟩
    obtain ⟨i, j, hi, hj, h5⟩ := (i0 _).1 hb
    obtain ⟨g1, g2⟩ := (hm i j hi hj).1 ⟨b, h5, hc⟩
    obtain ⟨c', q1, q2⟩ := (k1p (h2 _ (qR hj)).1 g1).1 g2
    exact ⟨⟨_, qR hi, g1⟩, c', ⟨_, qR hj, q1⟩, q2⟩
  · rintro ⟨⟨x, hx, g1⟩, c', ⟨y, hy, q1⟩, q2⟩
    obtain ⟨i, hi, rfl⟩ := lG hx
    obtain ⟨j, hj, rfl⟩ := lG hy
    obtain ⟨b, hb, hc⟩ := (hm i j hi hj).2 ⟨g1, (k1p (h2 _ (qR hj)).1 g1).2 ⟨c', q1, q2⟩⟩
    exact ⟨b, (i0 _).2 ⟨i, j, hi, hj, hb⟩, hc⟩
def ChP (ps : List Pt) : Nat → Co → Prop
  | 0, c => LCo (qF ps 0) c
  | i + 1, c => LCo (qF ps (i + 1)) c ∧ ∃ c', ChP ps i c' ∧ AgP (q6 ps i) c c'
theorem r6 {ps : List Pt} (h : PkG ps) (i : Nat) : i < ps.length → ∀ c, LCo (yF ps i) c ↔ ChP ps i c := by
  induction i with
  | zero =>
    intro hi c
    obtain ⟨h1, h2, _⟩ := h.at hi
    exact pV h2.v (by omega) c
  | succ i ih =>
    intro hi c
    obtain ⟨h1, h2, _⟩ := h.at hi
    obtain ⟨_, g2, g3⟩ := gF h i zo
    have h5 := h.1.2
    have hp := h.2.2 _ hi
    have hm : (qF ps (i + 1)).length * (yF ps i).length ≤ pdN ps (i + 1) := Nat.mul_le_mul (Nat.le_refl _) g3
    show LCo (bT (q6 ps i) (qF ps (i + 1)) (yF ps i)) c ↔ _
    rw [u67 h2 g2 (by omega) (by omega)]
    have ih := ih (by omega)
    constructor
    · rintro ⟨a, c', b, e⟩
      exact ⟨a, c', (ih c').1 b, e⟩
    · rintro ⟨a, c', b, e⟩
      exact ⟨a, c', (ih c').2 b, e⟩
theorem k28 {ps : List Pt} {i : Nat} : ∀ {m : Nat} {c : Co}, ChP ps (i + m) c → ∃ c', ChP ps i c'
  | 0, c, h => ⟨c, h⟩
  | m + 1, c, h => by
    obtain ⟨_, c', h1, _⟩ := h
    exact k28 (m := m) h1
theorem k5v {ps : List Pt} (h : PkG ps) : uK ps = 0 ↔ ∃ c, ChP ps (ps.length - 1) c := by
  have hl := h.1
  rcases k77 h with ⟨h1, h2, _⟩ | ⟨X, hX, _, hw, z, _⟩
  · refine ⟨fun _ => ?_, fun _ => h2⟩
    have hn : xX ps (ps.length - 1) = false := by
      rcases fI (xX ps) ps.length with ⟨_, h3⟩ | ⟨k, _, h3, _⟩
      · exact h3 _ (by omega)
      · have h1 : jV (xX ps) ps.length = -1 := h1
        omega
    have h4 := of_decide_eq_false hn
    have h5 : 1 ≤ (yF ps (ps.length - 1)).length := by
      by_cases e : (yF ps (ps.length - 1)).length = 0
      · exact absurd (.inr e) h4
      · omega
    obtain ⟨p, hp⟩ := v0y (gF h _ zo).2.1.v h5
    exact ⟨p, (r6 h _ (by omega) p).1 hp⟩
  · refine ⟨fun e => by omega, fun ⟨c, hc⟩ => ?_⟩
    rw [show ps.length - 1 = (X + 1) + (ps.length - 1 - (X + 1)) by omega] at hc
    obtain ⟨c', h1⟩ := k28 hc
    have h2 := k00 ((r6 h _ hX c').2 h1)
    have h3 := of_decide_eq_true hw
    have h4 := (gF h _ hX).1
    rcases h3 with h3 | h3
    · exact absurd h4 h3
    · omega
/-! more conversions -/
def u9d : List Pt → Nat → Int → List Pt
  | [], _, _ => []
  | p :: r, 0, v => u0 p.bs v :: r
  | p :: r, i + 1, v => p :: u9d r i v
theorem PsW.set {ps : List Pt} (h : PsW ps) : ∀ (i : Nat) (v : Int), PsW (u9d ps i v) := by
  induction ps with
  | nil => exact fun _ _ => PsW.nil
  | cons p r ih =>
    intro i v
    cases i with
    | zero =>
      intro q hq
      rcases List.mem_cons.1 hq with rfl | hq
      · exact h p (List.mem_cons_self ..)
      · exact h q (List.mem_cons_of_mem _ hq)
    | succ i =>
      intro q hq
      rcases List.mem_cons.1 hq with rfl | hq
      · exact h q (List.mem_cons_self ..)
      · exact ih (fun q hq => h q (List.mem_cons_of_mem _ hq)) i v q hq
theorem rN {ms : List Pt} {p : Pt} (hp : p ∈ ms) : ∃ i, i < ms.length ∧ i9 ms i = p := by
  obtain ⟨i, hi, rfl⟩ := List.mem_iff_getElem.1 hp
  exact ⟨i, hi, by unfold i9; rw [List.getD_eq_getElem?_getD, List.getElem?_eq_getElem hi]; rfl⟩
theorem u0r {ps ms : List Pt} (i : Nat) : (∀ j, j ≤ i → qF ms j = qF ps j) → pdN ms i = pdN ps i := by
  induction i with
  | zero => intro h; show (qF ms 0).length = (qF ps 0).length; rw [h 0 (Nat.le_refl 0)]
  | succ i ih => intro h; rw [pdN, pdN, h _ (Nat.le_refl _), ih fun j hj => h j (by omega)]
theorem v5t {ps ms : List Pt} (h : PkG ps) (hl : ms.length = ps.length) (hb : ∀ i, i < ps.length → qF ms i = qF ps i) (hc : ∀ i, i < ps.length → 0 ≤ q6 ms i ∧ q6 ms i ≤ 15) : PkG ms := ⟨by rw [hl]; exact h.1, fun p hp => by
  obtain ⟨i, hi, rfl⟩ := rN hp
  have h1 := h.at (i := i) (by omega)
  have h2 : (i9 ms i).bs = qF ps i := hb i (by omega)
  have h3 := hc i (by omega)
  rw [h2]; exact ⟨h1.1, h1.2.1, h3⟩, fun i hi => by
  rw [u0r i fun j hj => hb j (by omega)]; exact h.2.2 i (by omega)⟩
def AgW (d e : Int) : Prop := (qG e 1 = 0 → qG d 1 = 0) ∧ (qG e 2 = 0 → qG d 2 = 0) ∧ (qG e 4 = 0 → qG d 4 = 0) ∧ (qG e 8 = 0 → qG d 8 = 0)
theorem AgW.refl (d : Int) : AgW d d := ⟨id, id, id, id⟩
end Go.Proofs.YtbicifcgghmhaaaGreat
namespace Go.Proofs.YtbicifcgghmhaaaGreat
open Go.ChangeShapes Go.WideShapes Go.ChangeAt Go.RowKit
set_option linter.unusedVariables false
set_option linter.unusedSimpArgs false
/-! chapter 12: what is chosen fits -/
theorem u74 {ps : List Pt} (h : uK ps = 0) : uL ps = fY ps ps.length := by
  have h2 := k1x h rfl
  unfold uL at h2 ⊢
  by_cases c : fwO ps = true
  · exact if_pos c
  · rw [if_neg c] at h2 ⊢
    have : ps.length = 0 := h2.symm
    rw [this]; rfl
theorem u3z {ps : List Pt} (h : uK ps = 0) {i : Nat} (hi : i < ps.length) : d7 (uL ps) i = yF ps i := by rw [u74 h, u41 hi]
theorem sZ {d : Int} {xs ys : List Bx} {b : Bx} : ∀ i, b ∈ agL d xs ys i ↔ ∃ a k, a < i ∧ k < xs.length ∧ b ∈ lF d xs ys k a
  | 0 => ⟨fun h => (by cases h), fun ⟨a, _, h, _⟩ => absurd h (Nat.not_lt_zero a)⟩
  | i + 1 => by
    rw [agL, List.mem_append, sZ i, List.mem_flatten]
    constructor
    · rintro (⟨a, k, h1, h⟩ | ⟨l, hl, hb⟩)
      · exact ⟨a, k, by omega, h⟩
      · obtain ⟨k, hk, rfl⟩ := List.mem_map.1 hl
        exact ⟨i, k, by omega, List.mem_range.1 hk, hb⟩
    · rintro ⟨a, k, h1, h2, h3⟩
      by_cases e : a = i
      · subst e; exact .inr ⟨_, List.mem_map.2 ⟨k, List.mem_range.2 h2, rfl⟩, h3⟩
      · exact .inl ⟨a, k, by omega, h2, h3⟩
theorem v2d {d : Int} {xs ys : List Bx} {i : Nat} (h : ∀ j, j < xs.length → (lF d xs ys j i).length ≤ 1) (j : Nat) : j ≤ xs.length → List.length (agJ d xs ys i j) ≤ List.length (agL d xs ys i) + j := by
  induction j with
  | zero => intro _; rw [k9q rfl]; omega
  | succ j ih =>
    intro hj
    have h1 := ih (by omega)
    have h2 := h j (by omega)
    rw [k9o rfl, List.length_append]; omega
theorem u82 {d : Int} {N M : Nat} {xs ys : List Bx} (h : BsC N xs) (h2 : BsC M ys) (hN : N + max N M < 64) : BsC (N + max N M) (n4 d xs ys) ∧ (n4 d xs ys).length ≤ ys.length * xs.length ∧ ∀ c, LCo (n4 d xs ys) c ↔ LCo xs c ∧ ∃ c', LCo ys c' ∧ AgP d c c' := by
  have hm : ∀ i j, i < xs.length → j < ys.length → ∀ c, (LCo (lF d xs ys i j) c ↔ HC (u9 xs i) c ∧ HC (cA d (u9 xs i) (u9 ys j)) c) := fun i j hi hj c => by
    obtain ⟨a1, a2, a3⟩ := h _ (qR hi)
    obtain ⟨b1, b2, b3⟩ := h2 _ (qR hj)
    obtain ⟨z1, z2, z3⟩ := k66 d a1 b1
    exact k6v a1 z1 (by omega) (by omega) c
  refine ⟨fun b hb => ?_, ?_, fun c => ⟨?_, ?_⟩⟩
  · obtain ⟨a, k, ha, hk, h5⟩ := (sZ _).1 hb
    exact (jC h h2 hN hk ha).2.1 b h5
  · have : ∀ i, i ≤ ys.length → (agL d xs ys i).length ≤ i * xs.length := fun i => by
      induction i with
      | zero => exact fun _ => Nat.zero_le _
      | succ i ih =>
        intro hi
        have h3 := v2d (d := d) (xs := xs) (ys := ys) (i := i) (fun j hj => (jC h h2 hN hj (by omega)).2.2.1) xs.length (Nat.le_refl _)
        have h4 := ih (by omega)
        have h5 : (agL d xs ys (i + 1)).length = (agJ d xs ys i xs.length).length := congrArg List.length (u55 rfl rfl)
        rw [h5, Nat.succ_mul]; omega
    exact this _ (Nat.le_refl _)
  · rintro ⟨b, hb, hc⟩
    obtain ⟨j, i, hj, hi, h5⟩ := (sZ _).1 hb
    obtain ⟨g1, g2⟩ := (hm i j hi hj c).1 ⟨b, h5, hc⟩
    obtain ⟨c', q1, q2⟩ := (k1p (h2 _ (qR hj)).1 g1).1 g2
    exact ⟨⟨_, qR hi, g1⟩, c', ⟨_, qR hj, q1⟩, q2⟩
  · rintro ⟨⟨x, hx, g1⟩, c', ⟨y, hy, q1⟩, q2⟩
    obtain ⟨i, hi, rfl⟩ := lG hx
    obtain ⟨j, hj, rfl⟩ := lG hy
    obtain ⟨b, hb, hc⟩ := (hm i j hi hj c).2 ⟨g1, (k1p (h2 _ (qR hj)).1 g1).2 ⟨c', q1, q2⟩⟩
    exact ⟨b, (sZ _).2 ⟨j, i, hj, hi, hb⟩, hc⟩
theorem u3w {bs : List Bx} (h : BsV bs) (hn : bs.length ≤ 64) (c : Co) : hcB bs c ↔ LCo bs c := by
  have h1 := u6q h hn (k := c.k) (r := c.r) (m := c.m) (z := c.s)
  rw [h.eq hn] at h1
  exact k74.symm.trans h1
theorem u4y {bs : List Bx} (h : BsV bs) (hn : bs.length ≤ 64) (h1 : 1 ≤ bs.length) (k r : Int) (m : List Int) (z : Int) : LCo bs (beL bs k r m z) ∧ ∀ c, LCo bs c → coV ⟨k, r, m, z⟩ (beL bs k r m z) c ≤ 0 := by
  obtain ⟨h2, h3⟩ := u2p h.g h1 ⟨k, r, m, z⟩
  unfold beL
  rw [h.eq hn]
  exact ⟨(u3w h hn _).1 h2, fun c hc => h3 c ((u3w h hn c).2 hc)⟩
theorem u5z {xs : List Bx} (h : BsV xs) {c : Co} (hc : LCo xs c) (hm : c.m.length ≤ 1000000) : BsC 5 (qM c.k c.r c.m c.s) ∧ (qM c.k c.r c.m c.s).length ≤ 1 ∧ LCo (qM c.k c.r c.m c.s) c ∧ ∀ c', LCo (qM c.k c.r c.m c.s) c' → c' = c := by
  obtain ⟨b, hb, hh⟩ := hc
  obtain ⟨s1, s2⟩ := u98 (h b hb) (k := c.k) (r := c.r) (m := c.m) (z := c.s) hh
  obtain ⟨v1, v2⟩ := v3g (k := c.k) (r := c.r) (z := c.s) hm
  exact ⟨fun x hx => ⟨v1 x hx, v2 x hx⟩, mA _ _ _ _, u9a s1 s2, fun c' h' => u99 c' h'⟩
theorem k8x {ps : List Pt} (h : PkG ps) (h0 : uK ps = 0) (w : Co) (j : Nat) : j < ps.length → BsV (cwY ps ps.length j (a8 ps ps.length w j)) ∧ (cwY ps ps.length j (a8 ps ps.length w j)).length ≤ 64 ∧ 1 ≤ (cwY ps ps.length j (a8 ps ps.length w j)).length ∧ (∀ c, LCo (cwY ps ps.length j (a8 ps ps.length w j)) c → ChP ps (ps.length - 1 - j) c) ∧ (¬ j = 0 → ∀ c, LCo (cwY ps ps.length j (a8 ps ps.length w j)) c → AgP (q6 ps (ps.length - 1 - j)) c (a8 ps ps.length w j)) ∧ (∀ c, ChP ps (ps.length - 1 - j) c → (j = 0 ∨ AgP (q6 ps (ps.length - 1 - j)) c (a8 ps ps.length w j)) → LCo (cwY ps ps.length j (a8 ps ps.length w j)) c) := by
  induction j with
  | zero =>
    intro hj
    have e : cwY ps ps.length 0 (a8 ps ps.length w 0) = yF ps (ps.length - 1 - 0) := (if_pos rfl).trans (u3z h0 (by omega))
    rw [e]
    obtain ⟨_, f2, f3⟩ := gF h (ps.length - 1 - 0) zo
    have f4 := h.2.2 (ps.length - 1 - 0) (by omega)
    obtain ⟨c, hc⟩ := (k5v h).1 h0
    have fs := r6 h (ps.length - 1 - 0) (by omega)
    exact ⟨f2.v, by omega, k00 ((fs c).2 hc), fun c hc => (fs c).1 hc, fun e => absurd rfl e, fun c hc _ => (fs c).2 hc⟩
  | succ j ih =>
    intro hj
    obtain ⟨i1, i2, i3, i4, _, _⟩ := ih zo
    have hw : a8 ps ps.length w (j + 1) = beL (cwY ps ps.length j (a8 ps ps.length w j)) (a8 ps ps.length w j).k (a8 ps ps.length w j).r (a8 ps ps.length w j).m (a8 ps ps.length w j).s := rfl
    have hb := (u4y i1 i2 i3 (a8 ps ps.length w j).k (a8 ps ps.length w j).r (a8 ps ps.length w j).m (a8 ps ps.length w j).s).1
    rw [← hw] at hb
    have hlen : (a8 ps ps.length w (j + 1)).m.length ≤ 1000000 := (k3v i1.w (a8 ps ps.length w j).k (a8 ps ps.length w j).r (a8 ps ps.length w j).m (a8 ps ps.length w j).s).2.2.2
    have hc := i4 _ hb
    obtain ⟨q, hq⟩ : ∃ q, ps.length - 1 - j = q + 1 := ⟨ps.length - 1 - (j + 1), by omega⟩
    have hq2 : ps.length - 1 - (j + 1) = q := by omega
    rw [hq] at hc
    obtain ⟨g1, c', g2, g3⟩ := hc
    obtain ⟨s1, s2, s3, s4⟩ := u5z i1 hb hlen
    have e : cwY ps ps.length (j + 1) (a8 ps ps.length w (j + 1)) = n4 (q6 ps q) (yF ps q) (qM (a8 ps ps.length w (j + 1)).k (a8 ps ps.length w (j + 1)).r (a8 ps ps.length w (j + 1)).m (a8 ps ps.length w (j + 1)).s) := by
      unfold cwY
      rw [if_neg (by omega), hq2, u3z h0 (by omega)]
    rw [e, hq2]
    obtain ⟨_, f2, f3⟩ := gF h q zo
    have f4 := h.2.2 q (by omega)
    have hl := h.1.2
    obtain ⟨a1, a2, a3⟩ := u82 (d := q6 ps q) f2 s1 zo
    have fs := r6 h q (by omega)
    have hle : (qM (a8 ps ps.length w (j + 1)).k (a8 ps ps.length w (j + 1)).r (a8 ps ps.length w (j + 1)).m (a8 ps ps.length w (j + 1)).s).length * (yF ps q).length ≤ 1 * (yF ps q).length := Nat.mul_le_mul_right _ s2
    refine ⟨a1.v, by omega, k00 ((a3 c').2 ⟨(fs c').2 g2, _, s3, g3.symm⟩), fun c hc => (fs c).1 ((a3 c).1 hc).1, fun _ c hc => ?_, fun c hc ho => ?_⟩
    · obtain ⟨_, c2, hc2, ha⟩ := (a3 c).1 hc
      rw [s4 c2 hc2] at ha; exact ha
    · have ha : AgP (q6 ps q) c (a8 ps ps.length w (j + 1)) := ho.resolve_left (by omega)
      exact (a3 c).2 ⟨(fs c).2 hc, _, s3, ha⟩
theorem u7q {ps : List Pt} (h : PkG ps) (h0 : uK ps = 0) (w : Co) {j : Nat} (hj : j < ps.length) : ChP ps (ps.length - 1 - j) (a8 ps ps.length w (j + 1)) ∧ (¬ j = 0 → AgP (q6 ps (ps.length - 1 - j)) (a8 ps ps.length w (j + 1)) (a8 ps ps.length w j)) := by
  obtain ⟨i1, i2, i3, i4, i5, _⟩ := k8x h h0 w j hj
  have hb := (u4y i1 i2 i3 (a8 ps ps.length w j).k (a8 ps ps.length w j).r (a8 ps ps.length w j).m (a8 ps ps.length w j).s).1
  exact ⟨i4 _ hb, fun e => i5 e _ hb⟩
theorem v50 {ps : List Pt} (h : PkG ps) {n : Nat} (hn : ps.length = n) {k r : Int} {w : List Int} {z : Int} : ∀ j, j < n → uK ps = 0 → 1 ≤ List.length (kK (vF ps n k r w z j)) := fun j hj h0 => by
  subst hn
  obtain ⟨i1, i2, i3, _⟩ := k8x h h0 ⟨k, r, w, z⟩ j hj
  show 1 ≤ List.length (kK (cwY ps ps.length j (a8 ps ps.length ⟨k, r, w, z⟩ j)))
  rw [i1.eq i2]; exact i3
theorem u4i (ps : List Pt) (n : Nat) (k r : Int) (w : List Int) (z : Int) : ∀ (j q : Nat), q < j → cG (d6 ps n k r w z j) q = a8 ps n ⟨k, r, w, z⟩ (j - q)
  | 0, _, h => absurd h (Nat.not_lt_zero _)
  | j + 1, 0, _ => rfl
  | j + 1, q + 1, h => by
    have ih := u4i ps n k r w z j q (by omega)
    rw [Nat.add_sub_add_right]; exact ih
theorem u4p {ps : List Pt} {n : Nat} {k r : Int} {w : List Int} {z : Int} (h0 : uK ps = 0) {q : Nat} (hq : q < n) : cG (uF ps n k r w z) q = a8 ps n ⟨k, r, w, z⟩ (n - q) := by
  rw [(k29 h0).1]; exact u4i ps n k r w z n q hq
theorem u2e {ps : List Pt} {n : Nat} {k r : Int} {w : List Int} {z : Int} : (uK ps = 0 → List.length (uF ps n k r w z) = n) ∧ (¬ uK ps = 0 → List.length (uF ps n k r w z) = 0) :=
  ⟨fun h => by rw [(k29 h).1]; exact (k29 (n := n) h).2, fun h => by rw [u4o h]; rfl⟩
theorem u2d {ps : List Pt} (h : PkG ps) (h0 : uK ps = 0) {n : Nat} (hn : ps.length = n) (k r : Int) (w : List Int) (z : Int) {q : Nat} (hq : q + 1 < n) (hc : q6 ps q = 0) : cG (uF ps n k r w z) q = cG (uF ps n k r w z) (q + 1) := by
  subst hn
  rw [u4p h0 (by omega), u4p h0 hq]
  have hf := (u7q h h0 ⟨k, r, w, z⟩ (j := ps.length - (q + 1)) (by omega)).2 (by omega)
  rw [show ps.length - 1 - (ps.length - (q + 1)) = q by omega, hc, show ps.length - (q + 1) + 1 = ps.length - q by omega] at hf
  obtain ⟨a1, a2, a3, a4⟩ := hf
  have e1 := a1 (by decide); have e2 := a2 (by decide); have e3 := a3 (by decide); have e4 := a4 (by decide)
  have ext : ∀ {a b : Co}, a.k = b.k → a.r = b.r → a.m = b.m → a.s = b.s → a = b := fun {a b} h1 h2 h3 h4 => by cases a; cases b; simp_all
  exact ext e1 e2 e3 e4
end Go.Proofs.YtbicifcgghmhaaaGreat
namespace Go.Proofs.YtbicifcgghmhaaaGreat
open Go.ChangeShapes Go.WideShapes Go.ChangeAt Go.RowKit
set_option linter.unusedVariables false
set_option linter.unusedSimpArgs false
/-! chapter 12: chains from their other end, ports that are there twice -/
def cN (ps : List Pt) (n : Nat) : Nat → List Pt
  | 0 => []
  | j + 1 => cN ps n j ++ [u0 (qF ps (n - 1 - j)) (if n - 1 - j = 0 then 0 else q6 ps (n - 1 - j - 1))]
theorem v5l {ps bs : List Pt} {n i j : Nat} (h : cN ps n j = bs) (hi : i + j = n) (h0 : i - 1 = 0) : cN ps n (j + 1) = bs ++ [u0 (qF ps (i - 1)) 0] := by
  rw [cN, h, show n - 1 - j = i - 1 by omega, if_pos h0]
theorem v5k {ps bs : List Pt} {n i j : Nat} (h : cN ps n j = bs) (hi : i + j = n) (h0 : ¬ i - 1 = 0) : cN ps n (j + 1) = bs ++ [u0 (qF ps (i - 1)) (q6 ps (i - 1 - 1))] := by
  rw [cN, h, show n - 1 - j = i - 1 by omega, if_neg h0]
theorem aB (ps : List Pt) (n : Nat) : ∀ j, (cN ps n j).length = j
  | 0 => rfl
  | j + 1 => by rw [cN, List.length_append, aB ps n j]; rfl
theorem k18 {a b : List Pt} {i : Nat} (h : i < a.length) : i9 (a ++ b) i = i9 a i := by
  unfold i9; rw [List.getD_eq_getElem?_getD, List.getD_eq_getElem?_getD, List.getElem?_append_left h]
theorem k5f {a b : List Pt} {i : Nat} (h : a.length ≤ i) : i9 (a ++ b) i = i9 b (i - a.length) := by
  unfold i9; rw [List.getD_eq_getElem?_getD, List.getD_eq_getElem?_getD, List.getElem?_append_right h]
theorem k9g (ps : List Pt) (n : Nat) : ∀ j i, i < j → i9 (cN ps n j) i = u0 (qF ps (n - 1 - i)) (if n - 1 - i = 0 then 0 else q6 ps (n - 1 - i - 1))
  | 0, _, h => absurd h (Nat.not_lt_zero _)
  | j + 1, i, h => by
    rw [cN]
    by_cases e : i = j
    · subst e
      rw [k5f (by rw [aB]; exact Nat.le_refl _), aB, Nat.sub_self]; rfl
    · rw [k18 (by rw [aB]; omega)]; exact k9g ps n j i (by omega)
def FtS (ps : List Pt) (f : Nat → Co) : Prop := (∀ i, i < ps.length → LCo (qF ps i) (f i)) ∧ ∀ i, i + 1 < ps.length → AgP (q6 ps i) (f (i + 1)) (f i)
theorem u7s {ps : List Pt} (n : Nat) : ∀ c, ChP ps n c → ∃ f : Nat → Co, f n = c ∧ (∀ i, i ≤ n → LCo (qF ps i) (f i)) ∧ ∀ i, i < n → AgP (q6 ps i) (f (i + 1)) (f i) := by
  induction n with
  | zero => exact fun c h => ⟨fun _ => c, rfl, fun i hi => by rw [Nat.le_zero.1 hi]; exact h, fun i hi => absurd hi (Nat.not_lt_zero i)⟩
  | succ n ih =>
    rintro c ⟨h1, c', h2, h3⟩
    obtain ⟨f, g1, g2, g3⟩ := ih c' h2
    refine ⟨fun i => if i = n + 1 then c else f i, if_pos rfl, fun i hi => ?_, fun i hi => ?_⟩
    · show LCo (qF ps i) (if i = n + 1 then c else f i)
      by_cases e : i = n + 1
      · rw [if_pos e, e]; exact h1
      · rw [if_neg e]; exact g2 i (by omega)
    · show AgP (q6 ps i) (if i + 1 = n + 1 then c else f (i + 1)) (if i = n + 1 then c else f i)
      rw [if_neg (show ¬ i = n + 1 by omega)]
      by_cases e : i = n
      · rw [if_pos (by omega), e, g1]; exact h3
      · rw [if_neg (by omega)]; exact g3 i (by omega)
theorem u75 {ps : List Pt} {f : Nat → Co} (n : Nat) : (∀ i, i ≤ n → LCo (qF ps i) (f i)) → (∀ i, i < n → AgP (q6 ps i) (f (i + 1)) (f i)) → ChP ps n (f n) := by
  induction n with
  | zero => exact fun h _ => h 0 (Nat.le_refl 0)
  | succ n ih => exact fun h h2 => ⟨h _ (Nat.le_refl _), f n, ih (fun i hi => h i (by omega)) (fun i hi => h2 i (by omega)), h2 n (Nat.lt_succ_self n)⟩
theorem rC {ps : List Pt} (h : PkG ps) : uK ps = 0 ↔ ∃ f, FtS ps f := by
  rw [k5v h]
  have hl := h.1
  constructor
  · rintro ⟨c, hc⟩
    obtain ⟨f, _, g1, g2⟩ := u7s _ c hc
    exact ⟨f, fun i hi => g1 i (by omega), fun i hi => g2 i (by omega)⟩
  · rintro ⟨f, g1, g2⟩
    exact ⟨_, u75 _ (fun i hi => g1 i (by omega)) (fun i hi => g2 i (by omega))⟩
theorem k07 {ps : List Pt} (h : PkG ps) : uK ps = 0 ∨ uK ps = 13 := by
  rcases k77 h with ⟨_, z, _⟩ | ⟨_, _, _, _, z, _⟩
  · exact .inl z
  · exact .inr z
theorem k2h {ps : List Pt} {n i : Nat} (hi : i < n) : qF (cN ps n n) i = qF ps (n - 1 - i) ∧ (i + 1 < n → q6 (cN ps n n) i = q6 ps (n - 1 - (i + 1))) := by
  have e := k9g ps n n i hi
  unfold qF q6
  rw [e]
  refine ⟨rfl, fun h => ?_⟩
  show (if n - 1 - i = 0 then 0 else q6 ps (n - 1 - i - 1)) = _
  rw [if_neg (by omega)]; rfl
theorem u7y {ps : List Pt} (h : PkW ps) {n : Nat} (hn : ps.length = n) : PkG (cN ps n n) := by
  have hl := h.1
  refine s8 (by rw [aB]; omega) fun p hp => ?_
  obtain ⟨i, hi, rfl⟩ := rN hp
  rw [aB] at hi
  rw [k9g ps n n i hi]
  obtain ⟨a, b, c⟩ := h.at (i := n - 1 - i) zo
  refine ⟨a, b, ?_⟩
  show 0 ≤ (if n - 1 - i = 0 then 0 else q6 ps (n - 1 - i - 1)) ∧ (if n - 1 - i = 0 then 0 else q6 ps (n - 1 - i - 1)) ≤ 15
  split
  · decide
  · exact (h.at (i := n - 1 - i - 1) (by omega)).2.2
theorem u7x {ps : List Pt} (h : PkW ps) {n : Nat} (hn : ps.length = n) : uK (cN ps n n) = 0 ↔ uK ps = 0 := by
  rw [rC (u7y h hn), rC h.g]
  have hl := aB ps n n
  constructor
  · rintro ⟨f, g1, g2⟩
    refine ⟨fun i => f (n - 1 - i), fun i hi => ?_, fun i hi => ?_⟩
    · have := g1 (n - 1 - i) (by omega)
      rw [(k2h (ps := ps) (n := n) (i := n - 1 - i) (by omega)).1, show n - 1 - (n - 1 - i) = i by omega] at this
      exact this
    · have := g2 (n - 1 - (i + 1)) (by omega)
      rw [(k2h (ps := ps) (n := n) (i := n - 1 - (i + 1)) (by omega)).2 (by omega), show n - 1 - (n - 1 - (i + 1) + 1) = i by omega, show n - 1 - (i + 1) + 1 = n - 1 - i by omega] at this
      exact this.symm
  · rintro ⟨f, g1, g2⟩
    refine ⟨fun i => f (n - 1 - i), fun i hi => ?_, fun i hi => ?_⟩
    · rw [(k2h (ps := ps) (n := n) (i := i) (by omega)).1]; exact g1 _ (by omega)
    · have := g2 (n - 1 - (i + 1)) (by omega)
      rw [(k2h (ps := ps) (n := n) (i := i) (by omega)).2 (by omega)]
      rw [show n - 1 - (i + 1) + 1 = n - 1 - i by omega] at this
      exact this.symm
def twL (ps : List Pt) (k m : Nat) : List Pt := List.take k ps ++ [u0 (qF ps k) 0] ++ List.take m (List.drop k ps)
theorem tR {ps : List Pt} {k m : Nat} (hk : k < ps.length) (hm : m = ps.length - k) : (twL ps k m).length = ps.length + 1 ∧ ∀ i, i9 (twL ps k m) i = if i < k then i9 ps i else if i = k then u0 (qF ps k) 0 else i9 ps (i - 1) := by
  subst hm
  have l1 : (List.take k ps).length = k := by rw [List.length_take]; omega
  have l2 : (List.take k ps ++ [u0 (qF ps k) 0]).length = k + 1 := by rw [List.length_append, l1]; rfl
  have e : List.take (ps.length - k) (List.drop k ps) = List.drop k ps := List.take_of_length_le (by rw [List.length_drop]; exact Nat.le_refl _)
  unfold twL
  rw [e]
  refine ⟨by rw [List.length_append, l2, List.length_drop]; omega, fun i => ?_⟩
  by_cases h : i < k
  · rw [if_pos h, k18 (by omega), k18 (by omega), u9y h]
  · rw [if_neg h]
    by_cases h2 : i = k
    · rw [if_pos h2, k18 (by omega), k5f (by omega), l1, h2, Nat.sub_self]; rfl
    · rw [if_neg h2, k5f (by omega), l2]
      unfold i9
      rw [List.getD_eq_getElem?_getD, List.getD_eq_getElem?_getD, List.getElem?_drop, show k + (i - (k + 1)) = i - 1 by omega]
theorem k4j {ps : List Pt} {k m : Nat} (hk : k < ps.length) (hm : m = ps.length - k) (i : Nat) : qF (twL ps k m) i = qF ps (if i ≤ k then i else i - 1) ∧ q6 (twL ps k m) i = if i < k then q6 ps i else if i = k then 0 else q6 ps (i - 1) := by
  have e := (tR hk hm).2 i
  unfold qF q6
  rw [e]
  by_cases h : i < k
  · rw [if_pos h, if_pos h, if_pos (by omega)]; exact ⟨rfl, rfl⟩
  · rw [if_neg h, if_neg h]
    by_cases h2 : i = k
    · rw [if_pos h2, if_pos h2, if_pos (by omega), h2]; exact ⟨rfl, rfl⟩
    · rw [if_neg h2, if_neg h2, if_neg (by omega)]; exact ⟨rfl, rfl⟩
theorem u0g {ps : List Pt} (h : PkW ps) {k m : Nat} (hk : k < ps.length) (hm : m = ps.length - k) : PkG (twL ps k m) := by
  have hl := h.1
  have hg := tR hk hm
  refine s8 (by rw [hg.1]; omega) fun p hp => ?_
  obtain ⟨i, hi, rfl⟩ := rN hp
  rw [hg.1] at hi
  obtain ⟨b1, b2⟩ := k4j hk hm i
  have hi2 : (if i ≤ k then i else i - 1) < ps.length := by split <;> omega
  obtain ⟨a, b, c⟩ := h.at hi2
  have e1 : (i9 (twL ps k m) i).bs = qF ps (if i ≤ k then i else i - 1) := b1
  have e2 : (i9 (twL ps k m) i).cv = if i < k then q6 ps i else if i = k then 0 else q6 ps (i - 1) := b2
  rw [e1, e2]
  refine ⟨a, b, ?_⟩
  split
  · exact (h.at (by omega)).2.2
  · split
    · decide
    · exact (h.at (i := i - 1) (by omega)).2.2
theorem u7r {a b : Co} (h : AgP 0 a b) : a = b := by
  obtain ⟨h1, h2, h3, h4⟩ := h
  have h1 := h1 (by decide); have h2 := h2 (by decide); have h3 := h3 (by decide); have h4 := h4 (by decide)
  cases a; cases b; simp_all
theorem u5s {ps : List Pt} (h : PkW ps) {k m : Nat} (hk : k < ps.length) (hm : m = ps.length - k) : uK (twL ps k m) = 0 ↔ uK ps = 0 := by
  rw [rC (u0g h hk hm), rC h.g]
  have hl := (tR hk hm).1
  have at_ := fun i => k4j hk hm i
  constructor
  · rintro ⟨f, g1, g2⟩
    have hkk : f (k + 1) = f k := u7r (by
      have := g2 k (by omega)
      rw [(at_ k).2, if_neg (by omega), if_pos rfl] at this; exact this)
    refine ⟨fun i => f (if i ≤ k then i else i + 1), fun i hi => ?_, fun i hi => ?_⟩
    · show LCo (qF ps i) (f (if i ≤ k then i else i + 1))
      by_cases e : i ≤ k
      · have := g1 i (by omega)
        rw [(at_ i).1, if_pos e] at this
        rw [if_pos e]; exact this
      · have := g1 (i + 1) (by omega)
        rw [(at_ (i + 1)).1, if_neg (by omega), Nat.add_sub_cancel] at this
        rw [if_neg e]; exact this
    · show AgP (q6 ps i) (f (if i + 1 ≤ k then i + 1 else i + 1 + 1)) (f (if i ≤ k then i else i + 1))
      by_cases e : i + 1 ≤ k
      · have := g2 i (by omega)
        rw [(at_ i).2, if_pos (by omega)] at this
        rw [if_pos e, if_pos (by omega)]; exact this
      · have := g2 (i + 1) (by omega)
        rw [(at_ (i + 1)).2, if_neg (by omega), if_neg (by omega), Nat.add_sub_cancel] at this
        rw [if_neg e]
        by_cases e2 : i ≤ k
        · rw [if_pos e2, show i = k by omega, ← hkk]
          rw [show i = k by omega] at this; exact this
        · rw [if_neg e2]; exact this
  · rintro ⟨f, g1, g2⟩
    refine ⟨fun i => f (if i ≤ k then i else i - 1), fun i hi => ?_, fun i hi => ?_⟩
    · show LCo _ (f (if i ≤ k then i else i - 1))
      rw [(at_ i).1]; exact g1 _ (by split <;> omega)
    · show AgP _ (f (if i + 1 ≤ k then i + 1 else i + 1 - 1)) (f (if i ≤ k then i else i - 1))
      rw [(at_ i).2]
      by_cases e : i < k
      · rw [if_pos e, if_pos (show i + 1 ≤ k by omega), if_pos (show i ≤ k by omega)]; exact g2 i (by omega)
      · rw [if_neg e]
        by_cases e2 : i = k
        · rw [if_pos e2, if_neg (show ¬ i + 1 ≤ k by omega), if_pos (show i ≤ k by omega), Nat.add_sub_cancel]; exact AgP.refl _ _
        · rw [if_neg e2, if_neg (show ¬ i + 1 ≤ k by omega), if_neg (show ¬ i ≤ k by omega), Nat.add_sub_cancel]
          have := g2 (i - 1) (by omega)
          rw [show i - 1 + 1 = i by omega] at this; exact this
theorem u7u {ps : List Pt} (h : PkW ps) {n : Nat} (hn : ps.length = n) {k m : Nat} (hk : k < n) (hm : m = n - k) : (uK ps = 0 ∧ uK (cN ps n n) = 0 ∧ uK (twL ps k m) = 0) ∨ (uK ps = 13 ∧ uK (cN ps n n) = 13 ∧ uK (twL ps k m) = 13) := by
  subst hn
  have i1 := u7x h (n := ps.length) rfl
  have i2 := u5s h hk hm
  have a := k07 h.g; have b := k07 (u7y h (n := ps.length) rfl); have c := k07 (u0g h hk hm)
  omega
theorem u0f {ps : List Pt} (h : PkW ps) {k m N : Nat} (hk : k < ps.length) (hm : m = ps.length - k) (hN : N = ps.length + 1) (h0 : uK (twL ps k m) = 0) : cG (uF (twL ps k m) N 0 0 [] 0) k = cG (uF (twL ps k m) N 0 0 [] 0) (k + 1) := by
  have hl := (tR hk hm).1
  refine u2d (u0g h hk hm) h0 (by omega) 0 0 [] 0 (by omega) ?_
  rw [(k4j hk hm k).2, if_neg (by omega), if_pos rfl]
end Go.Proofs.YtbicifcgghmhaaaGreat
