/- Merged texts. -/
import Derived.Test.YtbicifcgghmhaaaGreatZR12
import Derived.Test.YtbicifcgghmhaaaGreatZL12F
import Derived.Test.YtbicifcgghmhaaaGreatZL10R
namespace Go.Proofs.YtbicifcgghmhaaaGreat
open Go.ChangeShapes Go.WideShapes Go.ChangeAt Go.RowKit
set_option linter.unusedVariables false
set_option linter.unusedSimpArgs false
/-! chapter 12: what is reached, by choices -/
def AgP (d : Int) (c c' : Co) : Prop := (qG d 1 = 0 → c.k = c'.k) ∧ (qG d 2 = 0 → c.r = c'.r) ∧ (qG d 4 = 0 → c.m = c'.m) ∧ (qG d 8 = 0 → c.s = c'.s)
theorem AgP.symm {d : Int} {a b : Co} (h : AgP d a b) : AgP d b a := ⟨fun e => (h.1 e).symm, fun e => (h.2.1 e).symm, fun e => (h.2.2.1 e).symm, fun e => (h.2.2.2 e).symm⟩
theorem AgP.refl (d : Int) (a : Co) : AgP d a a := ⟨fun _ => rfl, fun _ => rfl, fun _ => rfl, fun _ => rfl⟩
theorem u05 {y : Bx} (h : BxV y) : ∃ p, HC y p := ⟨_, (nJ h).1 (l7 h.g ⟨0, 0, [], 0⟩).1⟩
theorem k2a {xs : List Bx} (h : BsV xs) (h1 : 1 ≤ xs.length) : ∃ p, LCo xs p := by
  obtain ⟨b, hb⟩ := List.exists_mem_of_length_pos h1
  obtain ⟨p, hp⟩ := u05 (h b hb)
  exact ⟨p, b, hb, hp⟩
theorem jU {xs : List Bx} {p : Co} (h : LCo xs p) : 1 ≤ xs.length := by
  obtain ⟨b, hb, _⟩ := h
  exact List.length_pos_of_mem hb
theorem pG {d : Int} {x y : Bx} (hy : BxV y) {c : Co} (hx : HC x c) : HC (cC d x y) c ↔ ∃ c', HC y c' ∧ AgP d c c' := by
  obtain ⟨x1, x2, x3, x4⟩ := hx
  constructor
  · rintro ⟨h1, h2, h3, h4⟩
    obtain ⟨p, p1, p2, p3, p4⟩ := u05 hy
    refine ⟨⟨if qG d 1 = 0 then c.k else p.k, if qG d 2 = 0 then c.r else p.r, if qG d 4 = 0 then c.m else p.m, if qG d 8 = 0 then c.s else p.s⟩, ⟨?_, ?_, ?_, ?_⟩, fun e => (if_pos e).symm, fun e => (if_pos e).symm, fun e => (if_pos e).symm, fun e => (if_pos e).symm⟩
    · show 1 ≤ (if qG d 1 = 0 then c.k else p.k) ∧ (if qG d 1 = 0 then c.k else p.k) ≤ 7 ∧ gQ y.k (if qG d 1 = 0 then c.k else p.k).toNat = true
      have h1 : 1 ≤ c.k ∧ c.k ≤ 7 ∧ gQ (if qG d 1 = 0 then y.k else x.k) c.k.toNat = true := h1
      by_cases e : qG d 1 = 0
      · rw [if_pos e] at h1 ⊢; exact h1
      · rw [if_neg e]; exact p1
    · show bA y.r (if qG d 2 = 0 then c.r else p.r) = true
      have h2 : bA (if qG d 2 = 0 then y.r else x.r) c.r = true := h2
      by_cases e : qG d 2 = 0
      · rw [if_pos e] at h2 ⊢; exact h2
      · rw [if_neg e]; exact p2
    · show (if qG d 4 = 0 then c.m else p.m) ∈ y.m
      have h3 : c.m ∈ (if qG d 4 = 0 then y.m else x.m) := h3
      by_cases e : qG d 4 = 0
      · rw [if_pos e] at h3 ⊢; exact h3
      · rw [if_neg e]; exact p3
    · show bA y.s (if qG d 8 = 0 then c.s else p.s) = true
      have h4 : bA (if qG d 8 = 0 then y.s else x.s) c.s = true := h4
      by_cases e : qG d 8 = 0
      · rw [if_pos e] at h4 ⊢; exact h4
      · rw [if_neg e]; exact p4
  · rintro ⟨p, ⟨p1, p2, p3, p4⟩, a1, a2, a3, a4⟩
    refine ⟨?_, ?_, ?_, ?_⟩
    · show 1 ≤ c.k ∧ c.k ≤ 7 ∧ gQ (if qG d 1 = 0 then y.k else x.k) c.k.toNat = true
      by_cases e : qG d 1 = 0
      · rw [if_pos e, a1 e]; exact p1
      · rw [if_neg e]; exact x1
    · show bA (if qG d 2 = 0 then y.r else x.r) c.r = true
      by_cases e : qG d 2 = 0
      · rw [if_pos e, a2 e]; exact p2
      · rw [if_neg e]; exact x2
    · show c.m ∈ (if qG d 4 = 0 then y.m else x.m)
      by_cases e : qG d 4 = 0
      · rw [if_pos e, a3 e]; exact p3
      · rw [if_neg e]; exact x3
    · show bA (if qG d 8 = 0 then y.s else x.s) c.s = true
      by_cases e : qG d 8 = 0
      · rw [if_pos e, a4 e]; exact p4
      · rw [if_neg e]; exact x4
theorem k7l {x z : Bx} (hx : BxV x) (hz : BxV z) (h1 : x.rn + z.rn < 64) (h2 : x.sn + z.sn < 64) (c : Co) : LCo (yE [x] [z]) c ↔ HC x c ∧ HC z c := by
  have vx := (BsV.one hx).vb (by show 1 ≤ 64; decide)
  have vz := (BsV.one hz).vb (by show 1 ≤ 64; decide)
  have hs : crS [x] [z] 0 0 = true := u6r (sF hx.1.1 hz.1.1 h1) (sF hx.1.2.1 hz.1.2.1 h2)
  have hk := k2r hx hz (by omega) (by omega) c
  cases hc : zO [x] [z] 0 0 with
  | false =>
    obtain ⟨e1, _⟩ := k7k vx vz (((CI.zero [x] [z]).in.n hc).out rfl) rfl
    rw [e1, show bD ([] : List Bx) = [] from rfl]
    have hc : okX (zJ x z) = false := hc
    rw [hc] at hk
    exact ⟨fun ⟨b, hb, _⟩ => (by cases hb), fun h => absurd (hk.2 h).1 (by decide)⟩
  | true =>
    obtain ⟨e1, _⟩ := k7k vx vz (((CI.zero [x] [z]).in.y hc hs (by decide)).out rfl) rfl
    have hv : BxV (crB [x] [z] 0 0) := k9s hx hz hc
    have r1 := (k5u (xs := [] ++ [crB [x] [z] 0 0]) rfl ((BsV.one hv).vb (by show 1 ≤ 64; decide))).1
    rw [e1, r1]
    have hc : okX (zJ x z) = true := hc
    exact ⟨fun ⟨b, hb, h⟩ => hk.1 ⟨hc, by rw [List.mem_singleton.1 hb] at h; exact h⟩, fun h => ⟨_, List.mem_singleton.2 rfl, (hk.2 h).2⟩⟩
theorem fQ {xs : List Bx} {x : Bx} (h : x ∈ xs) : ∃ i, i < xs.length ∧ u2 xs i = x := by
  obtain ⟨i, hi, rfl⟩ := List.mem_iff_getElem.1 h
  exact ⟨i, hi, by unfold u2; rw [List.getD_eq_getElem?_getD, List.getElem?_eq_getElem hi]; rfl⟩
theorem u7a {d : Int} {N M : Nat} {xs ys : List Bx} (h : BsC N xs) (h2 : BsC M ys) (hN : N + max N M < 64) (hn : xs.length * ys.length ≤ 64) (c : Co) : LCo (cB d xs ys) c ↔ LCo xs c ∧ ∃ c', LCo ys c' ∧ AgP d c c' := by
  obtain ⟨h3, h4⟩ := k5q (d := d) h h2 hN hn xs.length (Nat.le_refl _)
  have hC : BsC (N + max N M) (n9 d xs ys xs.length) := fun b hb => by
    obtain ⟨i, j, hi, hj, h5⟩ := (jN _).1 hb
    exact (jS h h2 hN hi hj).2.1 b h5
  have e1 : cB d xs ys = bD (n9 d xs ys xs.length) := by unfold cB; rw [h3]; rfl
  have hm : ∀ i j, i < xs.length → j < ys.length → (LCo (lV d xs ys i j) c ↔ HC (u2 xs i) c ∧ HC (cC d (u2 xs i) (u2 ys j)) c) := fun i j hi hj => by
    obtain ⟨a1, a2, a3⟩ := h _ (qM hi)
    obtain ⟨b1, b2, b3⟩ := h2 _ (qM hj)
    obtain ⟨z1, z2, z3⟩ := k3u d a1 b1
    exact k7l a1 z1 (by omega) (by omega) c
  rw [e1, rO hC.v (by omega)]
  constructor
  · rintro ⟨b, hb, hc⟩
    obtain ⟨i, j, hi, hj, h5⟩ := (jN _).1 hb
    obtain ⟨g1, g2⟩ := (hm i j hi hj).1 ⟨b, h5, hc⟩
    obtain ⟨c', q1, q2⟩ := (pG (h2 _ (qM hj)).1 g1).1 g2
    exact ⟨⟨_, qM hi, g1⟩, c', ⟨_, qM hj, q1⟩, q2⟩
  · rintro ⟨⟨x, hx, g1⟩, c', ⟨y, hy, q1⟩, q2⟩
    obtain ⟨i, hi, rfl⟩ := fQ hx
    obtain ⟨j, hj, rfl⟩ := fQ hy
    obtain ⟨b, hb, hc⟩ := (hm i j hi hj).2 ⟨g1, (pG (h2 _ (qM hj)).1 g1).2 ⟨c', q1, q2⟩⟩
    exact ⟨b, (jN _).2 ⟨i, j, hi, hj, hb⟩, hc⟩
def ChP (ps : List Pt) : Nat → Co → Prop
  | 0, c => LCo (kR ps 0) c
  | i + 1, c => LCo (kR ps (i + 1)) c ∧ ∃ c', ChP ps i c' ∧ AgP (uG ps i) c c'
theorem fC {ps : List Pt} (h : PkG ps) (i : Nat) : i < ps.length → ∀ c, LCo (u1 ps i) c ↔ ChP ps i c := by
  induction i with
  | zero =>
    intro hi c
    obtain ⟨h1, h2, _⟩ := h.at hi
    exact rO h2.v (by omega) c
  | succ i ih =>
    intro hi c
    obtain ⟨h1, h2, _⟩ := h.at hi
    obtain ⟨_, g2, g3⟩ := bO h i zo
    have h5 := h.1.2
    have hp := h.2.2 _ hi
    have hm : (kR ps (i + 1)).length * (u1 ps i).length ≤ pdN ps (i + 1) := Nat.mul_le_mul (Nat.le_refl _) g3
    show LCo (cB (uG ps i) (kR ps (i + 1)) (u1 ps i)) c ↔ _
    rw [u7a h2 g2 (by omega) (by omega)]
    have ih := ih (by omega)
    constructor
    · rintro ⟨a, c', b, e⟩
      exact ⟨a, c', (ih c').1 b, e⟩
    · rintro ⟨a, c', b, e⟩
      exact ⟨a, c', (ih c').2 b, e⟩
theorem k2v {ps : List Pt} {i : Nat} : ∀ {m : Nat} {c : Co}, ChP ps (i + m) c → ∃ c', ChP ps i c'
  | 0, c, h => ⟨c, h⟩
  | m + 1, c, h => by
    obtain ⟨_, c', h1, _⟩ := h
    exact k2v (m := m) h1
theorem nB {ps : List Pt} (h : PkG ps) : uX ps = 0 ↔ ∃ c, ChP ps (ps.length - 1) c := by
  have hl := h.1
  rcases k0n h with ⟨h1, h2, _⟩ | ⟨X, hX, _, hw, z, _⟩
  · refine ⟨fun _ => ?_, fun _ => h2⟩
    have hn : mL ps (ps.length - 1) = false := by
      rcases fS (mL ps) ps.length with ⟨_, h3⟩ | ⟨k, _, h3, _⟩
      · exact h3 _ (by omega)
      · have h1 : gY (mL ps) ps.length = -1 := h1
        omega
    have h4 := of_decide_eq_false hn
    have h5 : 1 ≤ (u1 ps (ps.length - 1)).length := by
      by_cases e : (u1 ps (ps.length - 1)).length = 0
      · exact absurd (.inr e) h4
      · omega
    obtain ⟨p, hp⟩ := k2a (bO h _ zo).2.1.v h5
    exact ⟨p, (fC h _ (by omega) p).1 hp⟩
  · refine ⟨fun e => by omega, fun ⟨c, hc⟩ => ?_⟩
    rw [show ps.length - 1 = (X + 1) + (ps.length - 1 - (X + 1)) by omega] at hc
    obtain ⟨c', h1⟩ := k2v hc
    have h2 := jU ((fC h _ hX c').2 h1)
    have h3 := of_decide_eq_true hw
    have h4 := (bO h _ hX).1
    rcases h3 with h3 | h3
    · exact absurd h4 h3
    · omega
/-! more conversions -/
def v0e : List Pt → Nat → Int → List Pt
  | [], _, _ => []
  | p :: r, 0, v => dW p.bs v :: r
  | p :: r, i + 1, v => p :: v0e r i v
theorem PsW.set {ps : List Pt} (h : PsW ps) : ∀ (i : Nat) (v : Int), PsW (v0e ps i v) := by
  induction ps with
  | nil => exact fun _ _ => PsW.nil
  | cons p r ih =>
    intro i v
    cases i with
    | zero =>
      intro q hq
      rcases List.mem_cons.1 hq with rfl | hq
      · exact h p (List.mem_cons_self ..)
      · exact h q (List.mem_cons_of_mem _ hq)
    | succ i =>
      intro q hq
      rcases List.mem_cons.1 hq with rfl | hq
      · exact h q (List.mem_cons_self ..)
      · exact ih (fun q hq => h q (List.mem_cons_of_mem _ hq)) i v q hq
theorem k27 {ms : List Pt} {p : Pt} (hp : p ∈ ms) : ∃ i, i < ms.length ∧ rR ms i = p := by
  obtain ⟨i, hi, rfl⟩ := List.mem_iff_getElem.1 hp
  exact ⟨i, hi, by unfold rR; rw [List.getD_eq_getElem?_getD, List.getElem?_eq_getElem hi]; rfl⟩
theorem u1t {ps ms : List Pt} (i : Nat) : (∀ j, j ≤ i → kR ms j = kR ps j) → pdN ms i = pdN ps i := by
  induction i with
  | zero => intro h; show (kR ms 0).length = (kR ps 0).length; rw [h 0 (Nat.le_refl 0)]
  | succ i ih => intro h; rw [pdN, pdN, h _ (Nat.le_refl _), ih fun j hj => h j (by omega)]
theorem v6q {ps ms : List Pt} (h : PkG ps) (hl : ms.length = ps.length) (hb : ∀ i, i < ps.length → kR ms i = kR ps i) (hc : ∀ i, i < ps.length → 0 ≤ uG ms i ∧ uG ms i ≤ 15) : PkG ms := ⟨by rw [hl]; exact h.1, fun p hp => by
  obtain ⟨i, hi, rfl⟩ := k27 hp
  have h1 := h.at (i := i) (by omega)
  have h2 : (rR ms i).bs = kR ps i := hb i (by omega)
  have h3 := hc i (by omega)
  rw [h2]; exact ⟨h1.1, h1.2.1, h3⟩, fun i hi => by
  rw [u1t i fun j hj => hb j (by omega)]; exact h.2.2 i (by omega)⟩
def AgW (d e : Int) : Prop := (qG e 1 = 0 → qG d 1 = 0) ∧ (qG e 2 = 0 → qG d 2 = 0) ∧ (qG e 4 = 0 → qG d 4 = 0) ∧ (qG e 8 = 0 → qG d 8 = 0)
theorem AgW.refl (d : Int) : AgW d d := ⟨id, id, id, id⟩
end Go.Proofs.YtbicifcgghmhaaaGreat
namespace Go.Proofs.YtbicifcgghmhaaaGreat
open Go.ChangeShapes Go.WideShapes Go.ChangeAt Go.RowKit
set_option linter.unusedVariables false
set_option linter.unusedSimpArgs false
/-! chapter 12: what is chosen fits -/
theorem u89 {ps : List Pt} (h : uX ps = 0) : uN ps = gF ps ps.length := by
  have h2 := k2h h rfl
  unfold uN at h2 ⊢
  by_cases c : fwO ps = true
  · exact if_pos c
  · rw [if_neg c] at h2 ⊢
    have : ps.length = 0 := h2.symm
    rw [this]; rfl
theorem u55 {ps : List Pt} (h : uX ps = 0) {i : Nat} (hi : i < ps.length) : eB (uN ps) i = u1 ps i := by rw [u89 h, u58 hi]
theorem tK {d : Int} {xs ys : List Bx} {b : Bx} : ∀ i, b ∈ agL d xs ys i ↔ ∃ a k, a < i ∧ k < xs.length ∧ b ∈ lV d xs ys k a
  | 0 => ⟨fun h => (by cases h), fun ⟨a, _, h, _⟩ => absurd h (Nat.not_lt_zero a)⟩
  | i + 1 => by
    rw [agL, List.mem_append, tK i, List.mem_flatten]
    constructor
    · rintro (⟨a, k, h1, h⟩ | ⟨l, hl, hb⟩)
      · exact ⟨a, k, by omega, h⟩
      · obtain ⟨k, hk, rfl⟩ := List.mem_map.1 hl
        exact ⟨i, k, by omega, List.mem_range.1 hk, hb⟩
    · rintro ⟨a, k, h1, h2, h3⟩
      by_cases e : a = i
      · subst e; exact .inr ⟨_, List.mem_map.2 ⟨k, List.mem_range.2 h2, rfl⟩, h3⟩
      · exact .inl ⟨a, k, by omega, h2, h3⟩
theorem v3d {d : Int} {xs ys : List Bx} {i : Nat} (h : ∀ j, j < xs.length → (lV d xs ys j i).length ≤ 1) (j : Nat) : j ≤ xs.length → List.length (agJ d xs ys i j) ≤ List.length (agL d xs ys i) + j := by
  induction j with
  | zero => intro _; rw [u0o rfl]; omega
  | succ j ih =>
    intro hj
    have h1 := ih (by omega)
    have h2 := h j (by omega)
    rw [u0m rfl, List.length_append]; omega
theorem u91 {d : Int} {N M : Nat} {xs ys : List Bx} (h : BsC N xs) (h2 : BsC M ys) (hN : N + max N M < 64) : BsC (N + max N M) (oN d xs ys) ∧ (oN d xs ys).length ≤ ys.length * xs.length ∧ ∀ c, LCo (oN d xs ys) c ↔ LCo xs c ∧ ∃ c', LCo ys c' ∧ AgP d c c' := by
  have hm : ∀ i j, i < xs.length → j < ys.length → ∀ c, (LCo (lV d xs ys i j) c ↔ HC (u2 xs i) c ∧ HC (cC d (u2 xs i) (u2 ys j)) c) := fun i j hi hj c => by
    obtain ⟨a1, a2, a3⟩ := h _ (qM hi)
    obtain ⟨b1, b2, b3⟩ := h2 _ (qM hj)
    obtain ⟨z1, z2, z3⟩ := k3u d a1 b1
    exact k7l a1 z1 (by omega) (by omega) c
  refine ⟨fun b hb => ?_, ?_, fun c => ⟨?_, ?_⟩⟩
  · obtain ⟨a, k, ha, hk, h5⟩ := (tK _).1 hb
    exact (jS h h2 hN hk ha).2.1 b h5
  · have : ∀ i, i ≤ ys.length → (agL d xs ys i).length ≤ i * xs.length := fun i => by
      induction i with
      | zero => exact fun _ => Nat.zero_le _
      | succ i ih =>
        intro hi
        have h3 := v3d (d := d) (xs := xs) (ys := ys) (i := i) (fun j hj => (jS h h2 hN hj (by omega)).2.2.1) xs.length (Nat.le_refl _)
        have h4 := ih (by omega)
        have h5 : (agL d xs ys (i + 1)).length = (agJ d xs ys i xs.length).length := congrArg List.length (u68 rfl rfl)
        rw [h5, Nat.succ_mul]; omega
    exact this _ (Nat.le_refl _)
  · rintro ⟨b, hb, hc⟩
    obtain ⟨j, i, hj, hi, h5⟩ := (tK _).1 hb
    obtain ⟨g1, g2⟩ := (hm i j hi hj c).1 ⟨b, h5, hc⟩
    obtain ⟨c', q1, q2⟩ := (pG (h2 _ (qM hj)).1 g1).1 g2
    exact ⟨⟨_, qM hi, g1⟩, c', ⟨_, qM hj, q1⟩, q2⟩
  · rintro ⟨⟨x, hx, g1⟩, c', ⟨y, hy, q1⟩, q2⟩
    obtain ⟨i, hi, rfl⟩ := fQ hx
    obtain ⟨j, hj, rfl⟩ := fQ hy
    obtain ⟨b, hb, hc⟩ := (hm i j hi hj c).2 ⟨g1, (pG (h2 _ (qM hj)).1 g1).2 ⟨c', q1, q2⟩⟩
    exact ⟨b, (tK _).2 ⟨j, i, hj, hi, hb⟩, hc⟩
theorem u52 {bs : List Bx} (h : BsV bs) (hn : bs.length ≤ 64) (c : Co) : hcB bs c ↔ LCo bs c := by
  have h1 := u7v h hn (k := c.k) (r := c.r) (m := c.m) (z := c.s)
  rw [h.eq hn] at h1
  exact k7u.symm.trans h1
theorem u0e {bs : List Bx} (h : BsV bs) (hn : bs.length ≤ 64) (h1 : 1 ≤ bs.length) (k r : Int) (m : List Int) (z : Int) : LCo bs (xU bs k r m z) ∧ ∀ c, LCo bs c → n4 ⟨k, r, m, z⟩ (xU bs k r m z) c ≤ 0 := by
  obtain ⟨h2, h3⟩ := u3r h.g h1 ⟨k, r, m, z⟩
  unfold xU
  rw [h.eq hn]
  exact ⟨(u52 h hn _).1 h2, fun c hc => h3 c ((u52 h hn c).2 hc)⟩
theorem u73 {xs : List Bx} (h : BsV xs) {c : Co} (hc : LCo xs c) (hm : c.m.length ≤ 1000000) : BsC 5 (qL c.k c.r c.m c.s) ∧ (qL c.k c.r c.m c.s).length ≤ 1 ∧ LCo (qL c.k c.r c.m c.s) c ∧ ∀ c', LCo (qL c.k c.r c.m c.s) c' → c' = c := by
  obtain ⟨b, hb, hh⟩ := hc
  obtain ⟨s1, s2⟩ := v0a (h b hb) (k := c.k) (r := c.r) (m := c.m) (z := c.s) hh
  obtain ⟨v1, v2⟩ := v4f (k := c.k) (r := c.r) (z := c.s) hm
  exact ⟨fun x hx => ⟨v1 x hx, v2 x hx⟩, mS _ _ _ _, v0c s1 s2, fun c' h' => v0b c' h'⟩
theorem k11 {ps : List Pt} (h : PkG ps) (h0 : uX ps = 0) (w : Co) (j : Nat) : j < ps.length → BsV (zI ps ps.length j (aQ ps ps.length w j)) ∧ (zI ps ps.length j (aQ ps ps.length w j)).length ≤ 64 ∧ 1 ≤ (zI ps ps.length j (aQ ps ps.length w j)).length ∧ (∀ c, LCo (zI ps ps.length j (aQ ps ps.length w j)) c → ChP ps (ps.length - 1 - j) c) ∧ (¬ j = 0 → ∀ c, LCo (zI ps ps.length j (aQ ps ps.length w j)) c → AgP (uG ps (ps.length - 1 - j)) c (aQ ps ps.length w j)) ∧ (∀ c, ChP ps (ps.length - 1 - j) c → (j = 0 ∨ AgP (uG ps (ps.length - 1 - j)) c (aQ ps ps.length w j)) → LCo (zI ps ps.length j (aQ ps ps.length w j)) c) := by
  induction j with
  | zero =>
    intro hj
    have e : zI ps ps.length 0 (aQ ps ps.length w 0) = u1 ps (ps.length - 1 - 0) := (if_pos rfl).trans (u55 h0 (by omega))
    rw [e]
    obtain ⟨_, f2, f3⟩ := bO h (ps.length - 1 - 0) zo
    have f4 := h.2.2 (ps.length - 1 - 0) (by omega)
    obtain ⟨c, hc⟩ := (nB h).1 h0
    have fs := fC h (ps.length - 1 - 0) (by omega)
    exact ⟨f2.v, by omega, jU ((fs c).2 hc), fun c hc => (fs c).1 hc, fun e => absurd rfl e, fun c hc _ => (fs c).2 hc⟩
  | succ j ih =>
    intro hj
    obtain ⟨i1, i2, i3, i4, _, _⟩ := ih zo
    have hw : aQ ps ps.length w (j + 1) = xU (zI ps ps.length j (aQ ps ps.length w j)) (aQ ps ps.length w j).k (aQ ps ps.length w j).r (aQ ps ps.length w j).m (aQ ps ps.length w j).s := rfl
    have hb := (u0e i1 i2 i3 (aQ ps ps.length w j).k (aQ ps ps.length w j).r (aQ ps ps.length w j).m (aQ ps ps.length w j).s).1
    rw [← hw] at hb
    have hlen : (aQ ps ps.length w (j + 1)).m.length ≤ 1000000 := (k4i i1.w (aQ ps ps.length w j).k (aQ ps ps.length w j).r (aQ ps ps.length w j).m (aQ ps ps.length w j).s).2.2.2
    have hc := i4 _ hb
    obtain ⟨q, hq⟩ : ∃ q, ps.length - 1 - j = q + 1 := ⟨ps.length - 1 - (j + 1), by omega⟩
    have hq2 : ps.length - 1 - (j + 1) = q := by omega
    rw [hq] at hc
    obtain ⟨g1, c', g2, g3⟩ := hc
    obtain ⟨s1, s2, s3, s4⟩ := u73 i1 hb hlen
    have e : zI ps ps.length (j + 1) (aQ ps ps.length w (j + 1)) = oN (uG ps q) (u1 ps q) (qL (aQ ps ps.length w (j + 1)).k (aQ ps ps.length w (j + 1)).r (aQ ps ps.length w (j + 1)).m (aQ ps ps.length w (j + 1)).s) := by
      unfold zI
      rw [if_neg (by omega), hq2, u55 h0 (by omega)]
    rw [e, hq2]
    obtain ⟨_, f2, f3⟩ := bO h q zo
    have f4 := h.2.2 q (by omega)
    have hl := h.1.2
    obtain ⟨a1, a2, a3⟩ := u91 (d := uG ps q) f2 s1 zo
    have fs := fC h q (by omega)
    have hle : (qL (aQ ps ps.length w (j + 1)).k (aQ ps ps.length w (j + 1)).r (aQ ps ps.length w (j + 1)).m (aQ ps ps.length w (j + 1)).s).length * (u1 ps q).length ≤ 1 * (u1 ps q).length := Nat.mul_le_mul_right _ s2
    refine ⟨a1.v, by omega, jU ((a3 c').2 ⟨(fs c').2 g2, _, s3, g3.symm⟩), fun c hc => (fs c).1 ((a3 c).1 hc).1, fun _ c hc => ?_, fun c hc ho => ?_⟩
    · obtain ⟨_, c2, hc2, ha⟩ := (a3 c).1 hc
      rw [s4 c2 hc2] at ha; exact ha
    · have ha : AgP (uG ps q) c (aQ ps ps.length w (j + 1)) := ho.resolve_left (by omega)
      exact (a3 c).2 ⟨(fs c).2 hc, _, s3, ha⟩
theorem v2i {ps : List Pt} (h : PkG ps) {n : Nat} (hn : ps.length = n) {k r : Int} {w : List Int} {z : Int} : ∀ j, j < n → uX ps = 0 → 1 ≤ List.length (kK (vJ ps n k r w z j)) := fun j hj h0 => by
  subst hn
  obtain ⟨i1, i2, i3, _⟩ := k11 h h0 ⟨k, r, w, z⟩ j hj
  show 1 ≤ List.length (kK (zI ps ps.length j (aQ ps ps.length ⟨k, r, w, z⟩ j)))
  rw [i1.eq i2]; exact i3
end Go.Proofs.YtbicifcgghmhaaaGreat
namespace Go.Proofs.YtbicifcgghmhaaaGreat
open Go.ChangeShapes Go.WideShapes Go.ChangeAt Go.RowKit
set_option linter.unusedVariables false
set_option linter.unusedSimpArgs false
set_option maxHeartbeats 4000000
set_option maxRecDepth 100000
def oX (k r z j q y : Int) (m u : List Int) : Bool := decide (k = j ∧ r = q ∧ z = y ∧ m = u)
theorem v4k {k r z j q y : Int} {m u : List Int} (h : k = j ∧ r = q ∧ z = y) (h1 : aJ m u = true) : oX k r z j q y m u = true := decide_eq_true ⟨h.1, h.2.1, h.2.2, k5f h1⟩
theorem u76 {k r z j q y : Int} {m u : List Int} (h : ¬ (k = j ∧ r = q ∧ z = y)) : oX k r z j q y m u = false := decide_eq_false fun e => h ⟨e.1, e.2.1, e.2.2.1⟩
theorem v4l {k r z j q y : Int} {m u : List Int} (h1 : aJ m u = false) : oX k r z j q y m u = false := decide_eq_false fun e => k5e h1 e.2.2.2
theorem v0h {k r z j q y : Int} {m u : List Int} {w : Bool} (h : z = y) (h1 : oX k r 0 j q 0 m u = w) : oX k r z j q y m u = w := by
 subst h1; unfold oX; simp [h]
theorem v0i {k r z j q y : Int} {m u : List Int} : oX k r z j q y m u = true ↔ (⟨k, r, m, z⟩ : Co) = ⟨j, q, u, y⟩ := by
 unfold oX
 rw [decide_eq_true_iff, Co.mk.injEq]
 exact ⟨fun h => ⟨h.1, h.2.1, h.2.2.2, h.2.2.1⟩, fun h => ⟨h.1, h.2.1, h.2.2.2, h.2.2.1⟩⟩
theorem k3g (k r j q : Int) (m u : List Int) (a b : Nat) (ha : List.length m = a) (hb : List.length u = b) (h1 : a ≤ 1000000) (h2 : b ≤ 1000000) : Fun 57 [.agg [iC k, iC r, .d (D.sl (dI .i64 m) a)], .agg [iC j, iC q, .d (D.sl (dI .i64 u) b)]] (kF []) 0 (uW (D.lit (.bool (oX k r 0 j q 0 m u)))) (kF []) 0 := by
 refine Fun.mk (n := 24) Tryz.func57 rfl rfl (Nat.le_of_ble_eq_true rfl) ?_
 intro cx hcx
 refine kH [.no, .no, .no] True [(2, rV 0 0), (3, rV 1 0)] [(0, some (40, .ds [iD k, iD r, dl m a])), (1, some (40, .ds [iD j, iD q, dl u b]))] 2 trivial ?_
 by_cases hx1 : (k = j)
 ·by_cases hx2 : (r = q)
  ·rcases Bool.eq_false_or_eq_true (aJ m u) with hx3 | hx3
   ·refine kH (qE 4 (.b true :: qE 5 (.b true :: qE 6 [.call [] (bV true) [] 0 [] none, .no, .no]))) (((k = j)) ∧ ((r = q)) ∧ (Fun 87 [.c (.d (dl m a)), .c (.d (dl u b))] (kF []) 0 (bV true) (kF []) 0)) [(4, bV true)] [] 2 ⟨zo, zo, (by have h0 := (k38 m u a b zo zo zo zo); rw [hx3] at h0; exact h0)⟩ ?_
    refine AW.ret ?_
    exact kA (.inr rfl) [] (P := ((oX k r 0 j q 0 m u) = true)) zk (by exact v4k ⟨by omega, by omega, rfl⟩ (by assumption))
   ·refine kH (qE 4 (.b true :: qE 5 (.b true :: qE 6 [.call [] (bV false) [] 0 [] none, .no, .no]))) (((k = j)) ∧ ((r = q)) ∧ (Fun 87 [.c (.d (dl m a)), .c (.d (dl u b))] (kF []) 0 (bV false) (kF []) 0)) [(4, bV false)] [] 2 ⟨zo, zo, (by have h0 := (k38 m u a b zo zo zo zo); rw [hx3] at h0; exact h0)⟩ ?_
    refine AW.ret ?_
    exact kA (.inr rfl) [] (P := ((oX k r 0 j q 0 m u) = false)) zk (by exact v4l (by assumption))
  ·refine kH (qE 4 (.b true :: qE 5 (.b false :: qE 4 []))) (((k = j)) ∧ (¬ (r = q))) [(4, bV false)] [] 2 ⟨zo, zo⟩ ?_
   refine AW.ret ?_
   exact kA (.inr rfl) [] (P := ((oX k r 0 j q 0 m u) = false)) zk (by exact u76 (fun e9 => by omega))
 ·refine kH (qE 4 (.b false :: qE 5 [])) (¬ (k = j)) [(4, bV false)] [] 2 zo ?_
  refine AW.ret ?_
  exact kA (.inr rfl) [] (P := ((oX k r 0 j q 0 m u) = false)) zk (by exact u76 (fun e9 => by omega))
theorem u1c (k r z j q y : Int) (m u : List Int) (a b : Nat) (ha : List.length m = a) (hb : List.length u = b) (h1 : a ≤ 1000000) (h2 : b ≤ 1000000) : Fun 26 [.agg [iC k, iC r, .d (D.sl (dI .i64 m) a), iC z], .agg [iC j, iC q, .d (D.sl (dI .i64 u) b), iC y]] (kF []) 0 (uW (D.lit (.bool (oX k r z j q y m u)))) (kF []) 0 := by
 refine Fun.mk (n := 17) Tryz.func26 rfl rfl (Nat.le_of_ble_eq_true rfl) ?_
 intro cx hcx
 refine kH [.no, .no, .no] True [(2, rV 0 0), (3, rV 1 0)] [(0, some (42, .ds [iD k, iD r, dl m a, iD z])), (1, some (42, .ds [iD j, iD q, dl u b, iD y]))] 2 trivial ?_
 by_cases hx1 : (z = y)
 ·rcases Bool.eq_false_or_eq_true (oX k r 0 j q 0 m u) with hx2 | hx2
  ·refine kH (qE 4 (.b true :: qE 5 [.call [] (bV true) [] 0 [] none, .no, .no])) (((z = y)) ∧ (Fun 57 [.agg [iC k, iC r, .d (dl m a)], .agg [iC j, iC q, .d (dl u b)]] (kF []) 0 (bV true) (kF []) 0)) [(4, bV true)] [] 2 ⟨zo, (by have h0 := (k3g k r j q m u a b zo zo zo zo); rw [hx2] at h0; exact h0)⟩ ?_
   refine AW.ret ?_
   exact kA (.inr rfl) [] (P := ((oX k r z j q y m u) = true)) zk (by exact v0h zo (by assumption))
  ·refine kH (qE 4 (.b true :: qE 5 [.call [] (bV false) [] 0 [] none, .no, .no])) (((z = y)) ∧ (Fun 57 [.agg [iC k, iC r, .d (dl m a)], .agg [iC j, iC q, .d (dl u b)]] (kF []) 0 (bV false) (kF []) 0)) [(4, bV false)] [] 2 ⟨zo, (by have h0 := (k3g k r j q m u a b zo zo zo zo); rw [hx2] at h0; exact h0)⟩ ?_
   refine AW.ret ?_
   exact kA (.inr rfl) [] (P := ((oX k r z j q y m u) = false)) zk (by exact v0h zo (by assumption))
 ·refine kH (qE 4 [.b false, .no, .no, .no]) (¬ (z = y)) [(4, bV false)] [] 2 zo ?_
  refine AW.ret ?_
  exact kA (.inr rfl) [] (P := ((oX k r z j q y m u) = false)) zk (by exact u76 (fun e9 => by omega))
end Go.Proofs.YtbicifcgghmhaaaGreat
namespace Go.Proofs.YtbicifcgghmhaaaGreat
open Go.ChangeShapes Go.WideShapes Go.ChangeAt Go.RowKit
set_option linter.unusedVariables false
set_option linter.unusedSimpArgs false
/-! chapter 12: ports that offer more -/
def y9 : List Pt → Nat → List Bx → List Pt
  | [], _, _ => []
  | p :: r, 0, b => dW b p.cv :: r
  | p :: r, i + 1, b => p :: y9 r i b
theorem y8 : ∀ (ps : List Pt) (i : Nat) (b : List Bx), (y9 ps i b).length = ps.length
  | [], _, _ => rfl
  | _ :: _, 0, _ => rfl
  | p :: r, i + 1, v => congrArg Nat.succ (y8 r i v)
theorem z9 : ∀ (ps : List Pt) (i : Nat) (b : List Bx) (n : Nat), n = b.length → i < ps.length → g6 (qN ps) (i * 2) [D.sl (kN b) n] = qN (y9 ps i b)
  | [], _, _, _, _, h => absurd h (Nat.not_lt_zero _)
  | _ :: _, 0, _, _, e, _ => by rw [e]; rfl
  | p :: r, i + 1, b, n, e, h => by
    have ih := z9 r i b n e (Nat.lt_of_succ_lt_succ h)
    rw [show (i + 1) * 2 = i * 2 + 1 + 1 by omega]
    show ptR p ++ g6 (qN r) (i * 2) [D.sl (kN b) n] = ptR p ++ qN (y9 r i b)
    rw [ih]
theorem z8 : ∀ (ps : List Pt) (i : Nat) (b : List Bx) (j : Nat), j < ps.length → rR (y9 ps i b) j = if j = i then dW b (rR ps j).cv else rR ps j
  | [], _, _, _, h => absurd h (Nat.not_lt_zero _)
  | _ :: _, 0, _, 0, _ => rfl
  | p :: r, 0, v, j + 1, _ => rfl
  | p :: r, i + 1, v, 0, _ => rfl
  | p :: r, i + 1, v, j + 1, h => by
    have ih := z8 r i v j (Nat.lt_of_succ_lt_succ h)
    show rR (y9 r i v) j = if j + 1 = i + 1 then dW v (rR r j).cv else rR r j
    rw [ih]
    by_cases e : j = i
    · rw [if_pos e, if_pos (by omega)]
    · rw [if_neg e, if_neg (by omega)]
theorem mT (ps : List Pt) (i : Nat) (b : List Bx) {j : Nat} (h : j < ps.length) : kR (y9 ps i b) j = if j = i then b else kR ps j := by
  unfold kR; rw [z8 ps i b j h]; split <;> rfl
theorem k00 (ps : List Pt) (i : Nat) (b : List Bx) {j : Nat} (h : j < ps.length) : uG (y9 ps i b) j = uG ps j := by
  unfold uG; rw [z8 ps i b j h]; split <;> rfl
theorem v4s {ps : List Pt} {k : Nat} (hk : (kR ps k).length ≤ 3) (i : Nat) : (∀ j, j ≤ i → ¬ j = k → (kR ps j).length ≤ 2) → pdN ps i ≤ (if i < k then 2 ^ (i + 1) else 3 * 2 ^ i) := by
  induction i with
  | zero =>
    intro h
    show (kR ps 0).length ≤ _
    by_cases e : 0 = k
    · subst e; rw [if_neg (Nat.lt_irrefl 0)]; exact hk
    · rw [if_pos (by omega)]; exact h 0 (Nat.le_refl 0) e
  | succ i ih =>
    intro h
    have ih := ih fun j hj hn => h j (by omega) hn
    have hp : 1 ≤ 2 ^ i := Nat.one_le_two_pow
    rw [pdN]
    by_cases e : i + 1 < k
    · rw [if_pos e]; rw [if_pos (by omega)] at ih
      rw [Nat.pow_succ, Nat.mul_comm]; exact Nat.mul_le_mul ih (h _ (Nat.le_refl _) (by omega))
    · rw [if_neg e]
      by_cases e2 : i + 1 = k
      · rw [if_pos (by omega)] at ih
        rw [e2]; exact Nat.mul_le_mul hk (by rw [← e2]; exact ih)
      · rw [if_neg (by omega)] at ih
        have h2 := h (i + 1) (Nat.le_refl _) e2
        calc (kR ps (i + 1)).length * pdN ps i ≤ 2 * (3 * 2 ^ i) := Nat.mul_le_mul h2 ih
          _ = 3 * 2 ^ (i + 1) := by rw [Nat.pow_succ]; omega
theorem v0j {ps : List Pt} (h : PkW ps) {k : Nat} (hk : k < ps.length) {b : List Bx} (hb : BsC 5 b) (h1 : 1 ≤ b.length ∧ b.length ≤ 3) : PkG (y9 ps k b) := by
  have hl := h.1
  have hn := y8 ps k b
  refine ⟨by omega, fun p hp => ?_, fun i hi => ?_⟩
  · obtain ⟨i, hi, rfl⟩ := k27 hp
    have e1 : (rR (y9 ps k b) i).bs = if i = k then b else kR ps i := mT ps k b (by omega)
    have e2 : (rR (y9 ps k b) i).cv = uG ps i := k00 ps k b (by omega)
    obtain ⟨a, c, d⟩ := h.at (i := i) zo
    rw [e1, e2]
    refine ⟨?_, ?_, d⟩
    · split <;> omega
    · split
      · exact hb
      · exact c
  · have h3 := v4s (ps := y9 ps k b) (k := k) (by rw [mT _ _ _ hk, if_pos rfl]; exact h1.2) i fun j hj hn => by
      rw [mT _ _ _ (by omega), if_neg hn]; exact (h.at (i := j) (by omega)).1.2
    have a : 2 ^ (i + 1) ≤ 32 := Nat.le_trans (Nat.pow_le_pow_right (by decide) (show i + 1 ≤ 5 by omega)) (by decide)
    rw [Nat.pow_succ] at h3 a
    split at h3 <;> omega
theorem u1l {ps : List Pt} {k : Nat} {b : List Bx} (hk : k < ps.length) (hm : ∀ c, LCo (kR ps k) c → LCo b c) (i : Nat) : i < ps.length → ∀ c, ChP ps i c → ChP (y9 ps k b) i c := by
  have hb : ∀ j, j < ps.length → ∀ c, LCo (kR ps j) c → LCo (kR (y9 ps k b) j) c := fun j hj c hc => by
    rw [mT _ _ _ hj]
    by_cases e : j = k
    · rw [if_pos e]; rw [e] at hc; exact hm c hc
    · rw [if_neg e]; exact hc
  induction i with
  | zero => exact fun hi c h => hb 0 hi c h
  | succ i ih =>
    rintro hi c ⟨h1, c', h2, h3⟩
    exact ⟨hb _ hi c h1, c', ih (by omega) c' h2, by rw [k00 _ _ _ (by omega)]; exact h3⟩
theorem u9n {ps : List Pt} (h : PkW ps) {k : Nat} (hk : k < ps.length) {b : List Bx} (hb : BsC 5 b) (h1 : 1 ≤ b.length ∧ b.length ≤ 3) (hm : ∀ c, LCo (kR ps k) c → LCo b c) (h0 : uX ps = 0) : uX (y9 ps k b) = 0 := by
  have hl := h.1
  obtain ⟨c, hc⟩ := (nB h.g).1 h0
  exact (nB (v0j h hk hb h1)).2 ⟨c, by rw [y8]; exact u1l hk hm _ (by omega) c hc⟩
/-! the same choices in other boxes -/
def SmP (ps ms : List Pt) : Prop := ms.length = ps.length ∧ (∀ i, i < ps.length → ∀ c, LCo (kR ms i) c ↔ LCo (kR ps i) c) ∧ ∀ i, i < ps.length → uG ms i = uG ps i
theorem mR {ps ms : List Pt} (h : SmP ps ms) (i : Nat) : i < ps.length → ∀ c, ChP ms i c ↔ ChP ps i c := by
  induction i with
  | zero => exact fun hi c => h.2.1 0 hi c
  | succ i ih =>
    intro hi c
    have ih := ih (by omega)
    show (LCo (kR ms (i + 1)) c ∧ ∃ c', ChP ms i c' ∧ AgP (uG ms i) c c') ↔ (LCo (kR ps (i + 1)) c ∧ ∃ c', ChP ps i c' ∧ AgP (uG ps i) c c')
    rw [h.2.1 _ hi c, h.2.2 i (by omega)]
    constructor
    · rintro ⟨a, c', b, e⟩; exact ⟨a, c', (ih c').1 b, e⟩
    · rintro ⟨a, c', b, e⟩; exact ⟨a, c', (ih c').2 b, e⟩
theorem u3q {a b : List Bx} (ha : BsV a) (hb : BsV b) (na : a.length ≤ 64) (nb : b.length ≤ 64) (pa : 1 ≤ a.length) (pb : 1 ≤ b.length) (h : ∀ c, LCo a c ↔ LCo b c) (k r : Int) (m : List Int) (z : Int) : xU a k r m z = xU b k r m z := by
  obtain ⟨a1, a2⟩ := u0e ha na pa k r m z
  obtain ⟨b1, b2⟩ := u0e hb nb pb k r m z
  have h1 := a2 _ ((h _).2 b1)
  have h2 := b2 _ ((h _).1 a1)
  obtain ⟨l1, l2, _⟩ := u8u ⟨k, r, m, z⟩ (xU a k r m z) (xU b k r m z) (xU b k r m z)
  exact l2.1 (by omega)
theorem k2g {ps : List Pt} (h : PkG ps) : uX ps = 0 ∨ uX ps = 13 := by
  rcases k0n h with ⟨_, z, _⟩ | ⟨_, _, _, _, z, _⟩
  · exact .inl z
  · exact .inr z
theorem u01 (ps : List Pt) (n : Nat) (k r : Int) (w : List Int) (z : Int) : List.length (u0 ps n k r w z) ≤ n := by
  unfold u0; split
  · rw [yK]; exact Nat.le_refl _
  · exact Nat.zero_le _
theorem rJ {ps ms : List Pt} (h : PkG ps) (h2 : PkG ms) (hs : SmP ps ms) : uX ms = uX ps := by
  have e : uX ms = 0 ↔ uX ps = 0 := by
    rw [nB h, nB h2, hs.1]
    have hl := h.1
    exact ⟨fun ⟨c, hc⟩ => ⟨c, (mR hs _ (by omega) c).1 hc⟩, fun ⟨c, hc⟩ => ⟨c, (mR hs _ (by omega) c).2 hc⟩⟩
  have := k2g h; have := k2g h2
  omega
theorem v09 {ps ms : List Pt} (h : PkG ps) (h2 : PkG ms) (hs : SmP ps ms) (h0 : uX ps = 0) (w : Co) (j : Nat) : j ≤ ps.length → aQ ms ms.length w j = aQ ps ps.length w j := by
  have h0' : uX ms = 0 := (rJ h h2 hs).trans h0
  have hl := hs.1
  induction j with
  | zero => exact fun _ => rfl
  | succ j ih =>
    intro hj
    have ih := ih (by omega)
    obtain ⟨p1, p2, p3, p4, p5, p6⟩ := k11 h h0 w j zo
    obtain ⟨m1, m2, m3, m4, m5, m6⟩ := k11 h2 h0' w j zo
    show xU (zI ms ms.length j (aQ ms ms.length w j)) (aQ ms ms.length w j).k (aQ ms ms.length w j).r (aQ ms ms.length w j).m (aQ ms ms.length w j).s = xU (zI ps ps.length j (aQ ps ps.length w j)) (aQ ps ps.length w j).k (aQ ps ps.length w j).r (aQ ps ps.length w j).m (aQ ps ps.length w j).s
    rw [ih] at m1 m2 m3 m4 m5 m6 ⊢
    have hi : ps.length - 1 - j < ps.length := by omega
    have ec := hs.2.2 _ hi
    rw [hl] at m4 m5 m6
    rw [ec] at m5 m6
    refine u3q m1 p1 m2 p2 m3 p3 (fun c => ⟨fun hc => ?_, fun hc => ?_⟩) _ _ _ _
    · rw [hl] at hc
      refine p6 c ((mR hs _ hi c).1 (m4 c hc)) ?_
      by_cases e : j = 0
      · exact .inl e
      · exact .inr (m5 e c hc)
    · have := m6 c ((mR hs _ hi c).2 (p4 c hc)) (by
        by_cases e : j = 0
        · exact .inl e
        · exact .inr (p5 e c hc))
      rw [hl]; exact this
theorem u71 {ps ms : List Pt} (h : PkG ps) (h2 : PkG ms) (hs : SmP ps ms) {n m : Nat} (hn : ps.length = n) (hm : ms.length = m) (k r : Int) (w : List Int) (z : Int) : u0 ms m k r w z = u0 ps n k r w z := by
  have hl := hs.1
  obtain rfl : m = n := by omega
  subst hn
  have hz := rJ h h2 hs
  by_cases h0 : uX ps = 0
  · rw [(k9z h0).1, (k9z (hz.trans h0)).1]
    have : ∀ j, j ≤ ps.length → dO ms ps.length k r w z j = dO ps ps.length k r w z j := fun j => by
      induction j with
      | zero => exact fun _ => rfl
      | succ j ih =>
        intro hj
        have e := v09 h h2 hs h0 ⟨k, r, w, z⟩ (j + 1) hj
        rw [hl] at e
        show aQ ms ps.length ⟨k, r, w, z⟩ (j + 1) :: dO ms ps.length k r w z j = aQ ps ps.length ⟨k, r, w, z⟩ (j + 1) :: dO ps ps.length k r w z j
        rw [e, ih (by omega)]
    exact this _ (Nat.le_refl _)
  · rw [u00 h0, u00 (fun e => h0 (hz.symm.trans e))]
/-! the same blame -/
def oqD : Bool := (List.range 16).all fun d => (List.range 16).all fun s => (List.range 2).all fun p => (List.range 2).all fun q => (List.range 2).all fun r => (List.range 2).all fun t => decide (qG (oQ (d : Int) (b2 p) (b2 q) (b2 r) (b2 t)) (s : Int) = (s : Int)) == ((decide (¬ qG (f5 (15 - (s : Int)) (d : Int)) 1 = 0) || b2 p) && ((decide (¬ qG (f5 (15 - (s : Int)) (d : Int)) 2 = 0) || b2 q) && ((decide (¬ qG (f5 (15 - (s : Int)) (d : Int)) 4 = 0) || b2 r) && (decide (¬ qG (f5 (15 - (s : Int)) (d : Int)) 8 = 0) || b2 t))))
theorem v1b : oqD = true := by kernel_rfl
theorem u7h {d s : Int} (hd : 0 ≤ d ∧ d ≤ 15) (hs : 0 ≤ s ∧ s ≤ 15) (p q r t : Bool) : qG (oQ d p q r t) s = s ↔ (qG (f5 (15 - s) d) 1 = 0 → p = true) ∧ (qG (f5 (15 - s) d) 2 = 0 → q = true) ∧ (qG (f5 (15 - s) d) 4 = 0 → r = true) ∧ (qG (f5 (15 - s) d) 8 = 0 → t = true) := by
  obtain ⟨d, rfl⟩ : ∃ n : Nat, d = (n : Int) := ⟨d.toNat, by omega⟩
  obtain ⟨s, rfl⟩ : ∃ n : Nat, s = (n : Int) := ⟨s.toNat, by omega⟩
  have M := fun {n k : Nat} (h : n < k) => List.mem_range.2 h
  have hb : ∀ b : Bool, ∃ n, n < 2 ∧ b2 n = b := fun b => by
    cases b
    · exact ⟨0, by decide, rfl⟩
    · exact ⟨1, by decide, rfl⟩
  obtain ⟨p, hp, rfl⟩ := hb p
  obtain ⟨q, hq, rfl⟩ := hb q
  obtain ⟨r, hr, rfl⟩ := hb r
  obtain ⟨t, ht, rfl⟩ := hb t
  have h := List.all_eq_true.1 (List.all_eq_true.1 (List.all_eq_true.1 (List.all_eq_true.1 (List.all_eq_true.1 (List.all_eq_true.1 v1b d (M (by omega))) s (M (by omega))) p (M hp)) q (M hq)) r (M hr)) t (M ht)
  rw [beq_iff_eq] at h
  refine decide_eq_true_iff.symm.trans ?_
  rw [h, Bool.and_eq_true, Bool.and_eq_true, Bool.and_eq_true, Bool.or_eq_true, Bool.or_eq_true, Bool.or_eq_true, Bool.or_eq_true]
  simp only [decide_eq_true_iff]
  have e : ∀ (a : Prop) [Decidable a] (b : Bool), (¬ a ∨ b = true) ↔ (a → b = true) := fun a _ b => ⟨fun h h2 => h.elim (fun c => absurd h2 c) id, fun h => by
    by_cases c : a
    · exact .inr (h c)
    · exact .inl c⟩
  rw [e, e, e, e]
theorem u8w {e : Int} {x y : Bx} (hx : BxV x) (hy : BxV y) (h1 : x.rn + max x.rn y.rn ≤ 64) (h2 : x.sn + max x.sn y.sn ≤ 64) : ((qG e 1 = 0 → (gB x y).1) ∧ (qG e 2 = 0 → (gB x y).2.1) ∧ (qG e 4 = 0 → (gB x y).2.2.1) ∧ (qG e 8 = 0 → (gB x y).2.2.2)) ↔ ∃ c c', HC x c ∧ HC y c' ∧ AgP e c c' := by
  obtain ⟨m1, m2, m3, m4⟩ := k63 (d := e) (y := y) hx
  rw [← m1, ← m2, ← m3, ← m4]
  obtain ⟨z1, z2, z3⟩ := k3u e hx hy
  refine (u5p hx z1).symm.trans ?_
  have hk := fun c => k2r hx z1 (by omega) (by omega) c
  constructor
  · intro hc
    have hc : okX (zJ x (cC e x y)) = true := hc
    obtain ⟨c, h3⟩ := u05 (k9s hx z1 hc)
    obtain ⟨g1, g2⟩ := (hk c).1 ⟨hc, h3⟩
    obtain ⟨c', q1, q2⟩ := (pG hy g1).1 g2
    exact ⟨c, c', g1, q1, q2⟩
  · rintro ⟨c, c', g1, q1, q2⟩
    exact ((hk c).2 ⟨g1, (pG hy g1).2 ⟨c', q1, q2⟩⟩).1
theorem k6v {d s : Int} {N M : Nat} (hd : 0 ≤ d ∧ d ≤ 15) (hs : 0 ≤ s ∧ s ≤ 15) {xs ys : List Bx} (h : BsC N xs) (h2 : BsC M ys) (hN : N + max N M < 64) : jD (lO d xs ys xs.length) (lO d xs ys xs.length).length s = true ↔ ∃ c c', LCo xs c ∧ LCo ys c' ∧ AgP (f5 (15 - s) d) c c' := by
  have key : ∀ i j, i < xs.length → j < ys.length → (qG (shW d xs ys i j) s = s ↔ ∃ c c', HC (u2 xs i) c ∧ HC (u2 ys j) c' ∧ AgP (f5 (15 - s) d) c c') := fun i j hi hj => by
    obtain ⟨a1, a2, a3⟩ := h _ (qM hi)
    obtain ⟨b1, b2, b3⟩ := h2 _ (qM hj)
    obtain ⟨e1, e2, e3, e4⟩ := u4g a1 b1
    rw [u4e, u7h hd hs, ← u8w a1 b1 (by omega) (by omega), ← e1, ← e2, ← e3, ← e4]
    simp only [decide_eq_true_iff]
  rw [k0e]
  constructor
  · rintro ⟨x, hx, e⟩
    obtain ⟨i, j, hi, hj, rfl⟩ := (tA _).1 hx
    obtain ⟨c, c', g1, g2, g3⟩ := (key i j hi hj).1 e
    exact ⟨c, c', ⟨_, qM hi, g1⟩, ⟨_, qM hj, g2⟩, g3⟩
  · rintro ⟨c, c', ⟨x, hx, g1⟩, ⟨y, hy, g2⟩, g3⟩
    obtain ⟨i, hi, rfl⟩ := fQ hx
    obtain ⟨j, hj, rfl⟩ := fQ hy
    exact ⟨_, (tA _).2 ⟨i, j, hi, hj, rfl⟩, (key i j hi hj).2 ⟨c, c', g1, g2, g3⟩⟩
theorem k4h {l l' : List Int} {n n' : Nat} (h : 1 ≤ n ∧ 1 ≤ n') (hm : ∀ s : Int, 0 ≤ s ∧ s ≤ 15 → jD l n s = jD l' n' s) (i : Nat) : i ≤ 14 → bI l n i = bI l' n' i := by
  induction i with
  | zero => exact fun _ => rfl
  | succ i ih =>
    intro hi
    rw [bI, bI, ih (by omega), hm (14 - (i : Int)) (by omega)]
    by_cases e : jD l' n' (14 - (i : Int)) = false ∧ uB (14 - (i : Int)) ≤ uB (bI l' n' i)
    · rw [if_pos ⟨h.1, e⟩, if_pos ⟨h.2, e⟩]
    · rw [if_neg fun e2 => e e2.2, if_neg fun e2 => e e2.2]
theorem u3n {d : Int} {N M : Nat} (hd : 0 ≤ d ∧ d ≤ 15) {xs ys xs' ys' : List Bx} (h : BsC N xs) (h2 : BsC M ys) (h' : BsC N xs') (h2' : BsC M ys') (hN : N + max N M < 64) (p1 : 1 ≤ xs.length) (p2 : 1 ≤ ys.length) (hx : ∀ c, LCo xs' c ↔ LCo xs c) (hy : ∀ c, LCo ys' c ↔ LCo ys c) : tB d xs' ys' = tB d xs ys := by
  have ln : ∀ {a b : List Bx}, BsV a → 1 ≤ a.length → (∀ c, LCo b c ↔ LCo a c) → 1 ≤ b.length := fun ha hp hc => by
    obtain ⟨p, h3⟩ := k2a ha hp
    exact jU ((hc p).2 h3)
  have p1' := ln h.v p1 hx
  have p2' := ln h2.v p2 hy
  have q1 : 1 ≤ (lO d xs ys xs.length).length := by rw [iX]; exact Nat.mul_pos p1 p2
  have q2 : 1 ≤ (lO d xs' ys' xs'.length).length := by rw [iX]; exact Nat.mul_pos p1' p2'
  unfold tB
  rw [if_neg (by omega), if_neg (by omega), u3l _ _ q1, u3l _ _ q2]
  refine k4h ⟨q2, q1⟩ (fun s hs => ?_) 14 (Nat.le_refl _)
  have e1 := k6v hd hs h h2 hN
  have e2 := k6v hd hs h' h2' hN
  have e : jD (lO d xs' ys' xs'.length) (lO d xs' ys' xs'.length).length s = true ↔ jD (lO d xs ys xs.length) (lO d xs ys xs.length).length s = true := by
    rw [e1, e2]
    exact ⟨fun ⟨c, c', a, b, g⟩ => ⟨c, c', (hx c).1 a, (hy c').1 b, g⟩, fun ⟨c, c', a, b, g⟩ => ⟨c, c', (hx c).2 a, (hy c').2 b, g⟩⟩
  cases ha : jD (lO d xs ys xs.length) (lO d xs ys xs.length).length s with
  | true => exact e.2 ha
  | false =>
    rw [← Bool.not_eq_true] at ha ⊢
    exact fun hh => ha (e.1 hh)
theorem k5h {ps ms : List Pt} (h : PkG ps) (h2 : PkG ms) (hs : SmP ps ms) {j : Nat} (hj : j < ps.length) : mL ms j = mL ps j := by
  have hl := hs.1
  obtain ⟨a1, a2, _⟩ := bO h j hj
  obtain ⟨b1, b2, _⟩ := bO h2 j zo
  have fs := fC h j hj
  have gs := fC h2 j (by omega)
  have e : (u1 ms j).length = 0 ↔ (u1 ps j).length = 0 := by
    constructor
    · intro h0
      by_cases c : (u1 ps j).length = 0
      · exact c
      · obtain ⟨p, hp⟩ := k2a a2.v zo
        have := jU ((gs p).2 ((mR hs j hj p).2 ((fs p).1 hp)))
        omega
    · intro h0
      by_cases c : (u1 ms j).length = 0
      · exact c
      · obtain ⟨p, hp⟩ := k2a b2.v zo
        have := jU ((fs p).2 ((mR hs j hj p).1 ((gs p).1 hp)))
        omega
  unfold mL
  rw [a1, b1]
  exact decide_eq_decide.2 ⟨fun h => h.imp id e.1, fun h => h.imp id e.2⟩
theorem u70 {ps ms : List Pt} (h : PkG ps) (h2 : PkG ms) (hs : SmP ps ms) : aY ms = aY ps ∧ aZ ms = aZ ps := by
  have hl := hs.1
  have hk : lD ms ms.length = lD ps ps.length := by
    rw [hl]; exact k2n (fun j hj => k5h h h2 hs hj) _ (Nat.le_refl _)
  have hz := rJ h h2 hs
  rcases k0n h with ⟨_, z, p, d⟩ | ⟨X, hX, hkX, hw, z, p, d, _, _⟩
  · obtain ⟨p2, d2⟩ := u57 (hz.trans z)
    exact ⟨p2.trans p.symm, d2.trans d.symm⟩
  · have hkX2 : lD ms (X + 1) = -1 := by rw [← hkX]; exact k2n (fun j hj => k5h h h2 hs (by omega)) _ (Nat.le_refl _)
    have hw2 : mL ms (X + 1) = true := (k5h h h2 hs hX).trans hw
    obtain ⟨g1, _, _⟩ := bO h2 (X + 1) zo
    have hl2 : (u1 ms (X + 1)).length = 0 := (of_decide_eq_true hw2).resolve_left fun a => a g1
    obtain ⟨_, p2, d2, _⟩ := lZ h2.v hkX2 zo g1 hl2
    refine ⟨by rw [p2, p]; omega, ?_⟩
    rw [d2, d]
    obtain ⟨x1, x2, x3⟩ := h.at hX
    obtain ⟨_, _, x4⟩ := h.at (show X < ps.length by omega)
    obtain ⟨_, y2, _⟩ := h2.at (show X + 1 < ms.length by omega)
    obtain ⟨_, f2, _⟩ := bO h X zo
    obtain ⟨_, f3, _⟩ := bO h2 X zo
    have fs := fC h X (by omega)
    have gs := fC h2 X (by omega)
    have hne : 1 ≤ (u1 ps X).length := by
      have hkm : (if 0 ≤ lD ps X then lD ps X else if mL ps X = true then (X : Int) else -1) = -1 := hkX
      by_cases c : 0 ≤ lD ps X
      · rw [if_pos c] at hkm; omega
      · rw [if_neg c] at hkm
        by_cases c2 : mL ps X = true
        · rw [if_pos c2] at hkm; omega
        · have := of_decide_eq_false (Bool.not_eq_true _ ▸ c2 : mL ps X = false)
          by_cases c3 : (u1 ps X).length = 0
          · exact absurd (.inr c3) this
          · omega
    have h6 := h.1.2
    show tB (uG ms X) (kR ms (X + 1)) (u1 ms X) = tB (uG ps X) (kR ps (X + 1)) (u1 ps X)
    rw [hs.2.2 X (by omega)]
    exact u3n x4 x2 f2 y2 f3 (by omega) x1.1 hne (hs.2.1 _ hX) fun c => (gs c).trans ((mR hs X (by omega) c).trans (fs c).symm)
theorem k58 {ps : List Pt} {k : Nat} (hk : k < ps.length) {b : Bx} (hb : b ∈ kR ps k) : SmP ps (y9 ps k (kR ps k ++ [b])) := by
  refine ⟨y8 .., fun i hi c => ?_, fun i hi => k00 _ _ _ hi⟩
  rw [mT _ _ _ hi]
  by_cases e : i = k
  · rw [if_pos e, e, LCo.app]
    exact ⟨fun h => h.elim id fun ⟨x, hx, hc⟩ => ⟨b, hb, by rw [List.mem_singleton.1 hx] at hc; exact hc⟩, .inl⟩
  · rw [if_neg e]
theorem u1h {ps : List Pt} (h : PkW ps) {k : Nat} (hk : k < ps.length) {b : Bx} (hb : BxV b ∧ BxF b) : PkG (y9 ps k (kR ps k ++ [b])) := by
  obtain ⟨a1, a2, _⟩ := h.at hk
  refine v0j h hk (fun x hx => ?_) (by rw [List.length_append, List.length_singleton]; omega)
  rcases List.mem_append.1 hx with hx | hx
  · exact a2 x hx
  · rw [List.mem_singleton.1 hx]; exact ⟨hb.1, hb.2⟩
theorem v02 {ps : List Pt} (h : PkW ps) {k : Nat} (hk : k < ps.length) {b : Bx} (hb : BxV b ∧ BxF b) (h0 : uX ps = 0) : uX (y9 ps k (kR ps k ++ [b])) = 0 := by
  obtain ⟨a1, a2, _⟩ := h.at hk
  refine u9n h hk (fun x hx => ?_) (by rw [List.length_append, List.length_singleton]; omega) (fun c hc => LCo.app.2 (.inl hc)) h0
  rcases List.mem_append.1 hx with hx | hx
  · exact a2 x hx
  · rw [List.mem_singleton.1 hx]; exact ⟨hb.1, hb.2⟩
theorem u5y {l : List Int} (h : Byt l) : BxV (kE (eL l) (eK l) (eD l) (b9 l) (eJ l) (eC l)) ∧ BxF (kE (eL l) (eK l) (eD l) (b9 l) (eJ l) (eC l)) := ⟨⟨u09 _, u0a h, u08 h⟩, u5z h⟩
theorem pS {ps : List Pt} (h : PkW ps) {k : Nat} (hk : k < ps.length) : (BxV (kE (kQ (kR ps k) 0) (kY (kR ps k) 0) (kV (kR ps k) 0) (kT (kR ps k) 0) (kX (kR ps k) 0) (kU (kR ps k) 0)) ∧ BxF (kE (kQ (kR ps k) 0) (kY (kR ps k) 0) (kV (kR ps k) 0) (kT (kR ps k) 0) (kX (kR ps k) 0) (kU (kR ps k) 0))) ∧ kE (kQ (kR ps k) 0) (kY (kR ps k) 0) (kV (kR ps k) 0) (kT (kR ps k) 0) (kX (kR ps k) 0) (kU (kR ps k) 0) ∈ kR ps k := by
  obtain ⟨a1, a2, _⟩ := h.at hk
  have hm := qM (bs := kR ps k) (i := 0) (by omega)
  exact ⟨⟨(a2 _ hm).1, (a2 _ hm).2⟩, hm⟩
def scE (a b : List Co) (i : Nat) : Bool := oX (aB a i) (vS a i) (aA a i) (aB b i) (vS b i) (aA b i) (uJ a i) (uJ b i)
def scA (a b : List Co) : Nat → Bool
  | 0 => true
  | i + 1 => scA a b i && scE a b i
def scL (a b : List Co) : Bool := decide (a.length = b.length) && scA a b a.length
theorem u4i {a b : List Co} {i : Nat} (h : scA a b i = true) (h2 : scE a b i = true) : scA a b (i + 1) = true := by rw [scA, h, h2]; rfl
theorem k5o {a b : List Co} {i : Nat} (h : scE a b i = false) : ∀ m, scA a b (i + 1 + m) = false
  | 0 => by rw [Nat.add_zero, scA, h, Bool.and_false]
  | m + 1 => by rw [← Nat.add_assoc, scA, k5o h m]; rfl
theorem v0f {a b : List Co} (h : ¬ a.length = b.length) : scL a b = false := by unfold scL; rw [decide_eq_false h]; rfl
theorem v0g {a b : List Co} {i : Nat} (h : scE a b i = false) (hi : i < a.length) : scL a b = false := by
  have := k5o h (a.length - (i + 1))
  rw [show i + 1 + (a.length - (i + 1)) = a.length by omega] at this
  unfold scL; rw [this, Bool.and_false]
theorem u4h {a b : List Co} {i : Nat} (h : scA a b i = true) (hi : i = a.length) (hl : a.length = b.length) : scL a b = true := by
  subst hi; unfold scL; rw [h, decide_eq_true hl]; rfl
theorem k5n (a : List Co) : scL a a = true := by
  have : ∀ i, scA a a i = true := fun i => by
    induction i with
    | zero => rfl
    | succ i ih => exact u4i ih (v0i.2 rfl)
  exact u4h (this _) rfl rfl
end Go.Proofs.YtbicifcgghmhaaaGreat
