/- What is reached, by choices. No statement is proved here. -/
import Derived.Test.YtbicifcgghmhaaaGreatZR12
namespace Go.Proofs.YtbicifcgghmhaaaGreat
open Go.ChangeShapes Go.WideShapes Go.ChangeAt Go.RowKit
open List renaming getD_eq_getElem?_getD → ka8, getElem?_eq_getElem → ka7, mem_cons_of_mem → kc0, mem_cons_self → kb6, range → kd3
open Nat renaming lt_of_succ_lt_succ → kk8, not_lt_zero → ke5
set_option linter.unusedVariables false
set_option linter.unusedSimpArgs false
/-! chapter 12: what is reached, by choices -/
def AgP (d : Int) (c c' : Co) : Prop := (qH d 1 = 0 → c.k = c'.k) ∧ (qH d 2 = 0 → c.r = c'.r) ∧ (qH d 4 = 0 → c.m = c'.m) ∧ (qH d 8 = 0 → c.s = c'.s)
theorem AgP.symm {d : Int} {a b : Co} (h : AgP d a b) : AgP d b a := ⟨fun e => (h.1 e).symm, fun e => (h.2.1 e).symm, fun e => (h.2.2.1 e).symm, fun e => (h.2.2.2 e).symm⟩
theorem AgP.refl (d : Int) (a : Co) : AgP d a a := ⟨fun _ => rfl, fun _ => rfl, fun _ => rfl, fun _ => rfl⟩
theorem u5d {y : Bx} (h : BxV y) : ∃ p, HC y p := ⟨_, (k19 h).1 (tW h.g ⟨0, 0, [], 0⟩).1⟩
theorem k7j {xs : List Bx} (h : BsV xs) (h1 : 1 ≤ xs.length) : ∃ p, LCo xs p := by
  obtain ⟨b, hb⟩ := List.exists_mem_of_length_pos h1
  obtain ⟨p, hp⟩ := u5d (h b hb)
  exact ⟨p, b, hb, hp⟩
theorem u7e {xs : List Bx} {p : Co} (h : LCo xs p) : 1 ≤ xs.length := by
  obtain ⟨b, hb, _⟩ := h
  exact List.length_pos_of_mem hb
theorem u4h {d : Int} {x y : Bx} (hy : BxV y) {c : Co} (hx : HC x c) : HC (c5 d x y) c ↔ ∃ c', HC y c' ∧ AgP d c c' := by
  obtain ⟨x1, x2, x3, x4⟩ := hx
  constructor
  · rintro ⟨h1, h2, h3, h4⟩
    obtain ⟨p, p1, p2, p3, p4⟩ := u5d hy
    refine ⟨⟨if qH d 1 = 0 then c.k else p.k, if qH d 2 = 0 then c.r else p.r, if qH d 4 = 0 then c.m else p.m, if qH d 8 = 0 then c.s else p.s⟩, ⟨?_, ?_, ?_, ?_⟩, fun e => (if_pos e).symm, fun e => (if_pos e).symm, fun e => (if_pos e).symm, fun e => (if_pos e).symm⟩
    · show 1 ≤ (if qH d 1 = 0 then c.k else p.k) ∧ (if qH d 1 = 0 then c.k else p.k) ≤ 7 ∧ jR y.k (if qH d 1 = 0 then c.k else p.k).toNat = true
      have h1 : 1 ≤ c.k ∧ c.k ≤ 7 ∧ jR (if qH d 1 = 0 then y.k else x.k) c.k.toNat = true := h1
      by_cases e : qH d 1 = 0
      · rw [if_pos e] at h1 ⊢; exact h1
      · rw [if_neg e]; exact p1
    · show bM y.r (if qH d 2 = 0 then c.r else p.r) = true
      have h2 : bM (if qH d 2 = 0 then y.r else x.r) c.r = true := h2
      by_cases e : qH d 2 = 0
      · rw [if_pos e] at h2 ⊢; exact h2
      · rw [if_neg e]; exact p2
    · show (if qH d 4 = 0 then c.m else p.m) ∈ y.m
      have h3 : c.m ∈ (if qH d 4 = 0 then y.m else x.m) := h3
      by_cases e : qH d 4 = 0
      · rw [if_pos e] at h3 ⊢; exact h3
      · rw [if_neg e]; exact p3
    · show bM y.s (if qH d 8 = 0 then c.s else p.s) = true
      have h4 : bM (if qH d 8 = 0 then y.s else x.s) c.s = true := h4
      by_cases e : qH d 8 = 0
      · rw [if_pos e] at h4 ⊢; exact h4
      · rw [if_neg e]; exact p4
  · rintro ⟨p, ⟨p1, p2, p3, p4⟩, a1, a2, a3, a4⟩
    refine ⟨?_, ?_, ?_, ?_⟩
    · show 1 ≤ c.k ∧ c.k ≤ 7 ∧ jR (if qH d 1 = 0 then y.k else x.k) c.k.toNat = true
      by_cases e : qH d 1 = 0
      · rw [if_pos e, a1 e]; exact p1
      · rw [if_neg e]; exact x1
    · show bM (if qH d 2 = 0 then y.r else x.r) c.r = true
      by_cases e : qH d 2 = 0
      · rw [if_pos e, a2 e]; exact p2
      · rw [if_neg e]; exact x2
    · show c.m ∈ (if qH d 4 = 0 then y.m else x.m)
      by_cases e : qH d 4 = 0
      · rw [if_pos e, a3 e]; exact p3
      · rw [if_neg e]; exact x3
    · show bM (if qH d 8 = 0 then y.s else x.s) c.s = true
      by_cases e : qH d 8 = 0
      · rw [if_pos e, a4 e]; exact p4
      · rw [if_neg e]; exact x4
theorem u7h {x z : Bx} (hx : BxV x) (hz : BxV z) (h1 : x.rn + z.rn < 64) (h2 : x.sn + z.sn < 64) (c : Co) : LCo (yS [x] [z]) c ↔ HC x c ∧ HC z c := by
  have vx := (BsV.one hx).vb (by show 1 ≤ 64; decide)
  have vz := (BsV.one hz).vb (by show 1 ≤ 64; decide)
  have hs : crS [x] [z] 0 0 = true := u68 (sW hx.1.1 hz.1.1 h1) (sW hx.1.2.1 hz.1.2.1 h2)
  have hk := u33 hx hz (by omega) (by omega) c
  cases hc : crV [x] [z] 0 0 with
  | false =>
    obtain ⟨e1, _⟩ := k7o vx vz (((CI.zero [x] [z]).in.n hc).out rfl) rfl
    rw [e1, show bE ([] : List Bx) = [] from rfl]
    have hc : okX (crX x z) = false := hc
    rw [hc] at hk
    exact ⟨fun ⟨b, hb, _⟩ => (by cases hb), fun h => absurd (hk.2 h).1 (by decide)⟩
  | true =>
    obtain ⟨e1, _⟩ := k7o vx vz (((CI.zero [x] [z]).in.y hc hs (by decide)).out rfl) rfl
    have hv : BxV (crB [x] [z] 0 0) := u59 hx hz hc
    have r1 := (k61 (xs := [] ++ [crB [x] [z] 0 0]) rfl ((BsV.one hv).vb (by show 1 ≤ 64; decide))).1
    rw [e1, r1]
    have hc : okX (crX x z) = true := hc
    exact ⟨fun ⟨b, hb, h⟩ => hk.1 ⟨hc, by rw [List.mem_singleton.1 hb] at h; exact h⟩, fun h => ⟨_, List.mem_singleton.2 rfl, (hk.2 h).2⟩⟩
theorem k2t {xs : List Bx} {x : Bx} (h : x ∈ xs) : ∃ i, i < xs.length ∧ vC xs i = x := by
  obtain ⟨i, hi, rfl⟩ := List.mem_iff_getElem.1 h
  exact ⟨i, hi, by unfold vC; rw [ka8, ka7 hi]; rfl⟩
theorem u6p {d : Int} {N M : Nat} {xs ys : List Bx} (h : BsC N xs) (h2 : BsC M ys) (hN : N + max N M < 64) (hn : xs.length * ys.length ≤ 64) (c : Co) : LCo (cF d xs ys) c ↔ LCo xs c ∧ ∃ c', LCo ys c' ∧ AgP d c c' := by
  obtain ⟨h3, h4⟩ := k5y (d := d) h h2 hN hn xs.length (Nat.le_refl _)
  have hC : BsC (N + max N M) (oR d xs ys xs.length) := fun b hb => by
    obtain ⟨i, j, hi, hj, h5⟩ := (lA _).1 hb
    exact (sQ h h2 hN hi hj).2.1 b h5
  have e1 : cF d xs ys = bE (oR d xs ys xs.length) := by unfold cF; rw [h3]; rfl
  have hm : ∀ i j, i < xs.length → j < ys.length → (LCo (o3 d xs ys i j) c ↔ HC (vC xs i) c ∧ HC (c5 d (vC xs i) (vC ys j)) c) := fun i j hi hj => by
    obtain ⟨a1, a2, a3⟩ := h _ (uP hi)
    obtain ⟨b1, b2, b3⟩ := h2 _ (uP hj)
    obtain ⟨z1, z2, z3⟩ := u1p d a1 b1
    exact u7h a1 z1 (by omega) (by omega) c
  rw [e1, sB hC.v (by omega)]
  constructor
  · rintro ⟨b, hb, hc⟩
    obtain ⟨i, j, hi, hj, h5⟩ := (lA _).1 hb
    obtain ⟨g1, g2⟩ := (hm i j hi hj).1 ⟨b, h5, hc⟩
    obtain ⟨c', q1, q2⟩ := (u4h (h2 _ (uP hj)).1 g1).1 g2
    exact ⟨⟨_, uP hi, g1⟩, c', ⟨_, uP hj, q1⟩, q2⟩
  · rintro ⟨⟨x, hx, g1⟩, c', ⟨y, hy, q1⟩, q2⟩
    obtain ⟨i, hi, rfl⟩ := k2t hx
    obtain ⟨j, hj, rfl⟩ := k2t hy
    obtain ⟨b, hb, hc⟩ := (hm i j hi hj).2 ⟨g1, (u4h (h2 _ (uP hj)).1 g1).2 ⟨c', q1, q2⟩⟩
    exact ⟨b, (lA _).2 ⟨i, j, hi, hj, hb⟩, hc⟩
def ChP (ps : List Pt) : Nat → Co → Prop
  | 0, c => LCo (q7 ps 0) c
  | i + 1, c => LCo (q7 ps (i + 1)) c ∧ ∃ c', ChP ps i c' ∧ AgP (qP ps i) c c'
theorem k81 {ps : List Pt} (h : PkW ps) (i : Nat) : i < ps.length → ∀ c, LCo (y3 ps i) c ↔ ChP ps i c := by
  induction i with
  | zero =>
    intro hi c
    obtain ⟨h1, h2, _⟩ := h.at hi
    exact sB h2.v (by omega) c
  | succ i ih =>
    intro hi c
    obtain ⟨h1, h2, _⟩ := h.at hi
    obtain ⟨_, g2, g3⟩ := n5 h i zo
    have h5 := h.1.2
    have hp : 2 ^ (i + 1) ≤ 16 := k6h (by omega)
    have hm : (q7 ps (i + 1)).length * (y3 ps i).length ≤ 2 * 2 ^ (i + 1) := Nat.mul_le_mul h1.2 g3
    show LCo (cF (qP ps i) (q7 ps (i + 1)) (y3 ps i)) c ↔ _
    rw [u6p h2 g2 (by omega) (by omega)]
    have ih := ih (by omega)
    constructor
    · rintro ⟨a, c', b, e⟩
      exact ⟨a, c', (ih c').1 b, e⟩
    · rintro ⟨a, c', b, e⟩
      exact ⟨a, c', (ih c').2 b, e⟩
theorem k3g {ps : List Pt} {i : Nat} : ∀ {m : Nat} {c : Co}, ChP ps (i + m) c → ∃ c', ChP ps i c'
  | 0, c, h => ⟨c, h⟩
  | m + 1, c, h => by
    obtain ⟨_, c', h1, _⟩ := h
    exact k3g (m := m) h1
theorem k0x {ps : List Pt} (h : PkW ps) : vE ps = 0 ↔ ∃ c, ChP ps (ps.length - 1) c := by
  have hl := h.1
  rcases u7t h with ⟨h1, h2, _⟩ | ⟨X, hX, _, hw, z, _⟩
  · refine ⟨fun _ => ?_, fun _ => h2⟩
    have hn : wdB ps (ps.length - 1) = false := by
      rcases gA (wdB ps) ps.length with ⟨_, h3⟩ | ⟨k, _, h3, _⟩
      · exact h3 _ (by omega)
      · have h1 : lZ (wdB ps) ps.length = -1 := h1
        omega
    have h4 := of_decide_eq_false hn
    have h5 : 1 ≤ (y3 ps (ps.length - 1)).length := by
      by_cases e : (y3 ps (ps.length - 1)).length = 0
      · exact absurd (.inr e) h4
      · omega
    obtain ⟨p, hp⟩ := k7j (n5 h _ zo).2.1.v h5
    exact ⟨p, (k81 h _ (by omega) p).1 hp⟩
  · refine ⟨fun e => by omega, fun ⟨c, hc⟩ => ?_⟩
    rw [show ps.length - 1 = (X + 1) + (ps.length - 1 - (X + 1)) by omega] at hc
    obtain ⟨c', h1⟩ := k3g hc
    have h2 := u7e ((k81 h _ hX c').2 h1)
    have h3 := of_decide_eq_true hw
    have h4 := (n5 h _ hX).1
    rcases h3 with h3 | h3
    · exact absurd h4 h3
    · omega
/-! more conversions -/
def yR : List Pt → Nat → Int → List Pt
  | [], _, _ => []
  | p :: r, 0, v => e8 p.bs v :: r
  | p :: r, i + 1, v => p :: yR r i v
theorem bA : ∀ (ps : List Pt) (i : Nat) (v : Int), (yR ps i v).length = ps.length
  | [], _, _ => rfl
  | _ :: _, 0, _ => rfl
  | p :: r, i + 1, v => congrArg Nat.succ (bA r i v)
theorem k0n : ∀ (ps : List Pt) (i : Nat) (v : Int), i < ps.length → oN (qU ps) (i * 2 + 1) [D.lit (.int .i64 v)] = qU (yR ps i v)
  | [], _, _, h => absurd h (ke5 _)
  | _ :: _, 0, _, _ => rfl
  | p :: r, i + 1, v, h => by
    have ih := k0n r i v (kk8 h)
    rw [show (i + 1) * 2 + 1 = i * 2 + 1 + 1 + 1 by omega]
    show ptR p ++ oN (qU r) (i * 2 + 1) [D.lit (.int .i64 v)] = ptR p ++ qU (yR r i v)
    rw [ih]
theorem k0m : ∀ (ps : List Pt) (i : Nat) (v : Int) (j : Nat), j < ps.length → ptG (yR ps i v) j = if j = i then e8 (ptG ps j).bs v else ptG ps j
  | [], _, _, _, h => absurd h (ke5 _)
  | _ :: _, 0, _, 0, _ => rfl
  | p :: r, 0, v, j + 1, _ => rfl
  | p :: r, i + 1, v, 0, _ => rfl
  | p :: r, i + 1, v, j + 1, h => by
    have ih := k0m r i v j (kk8 h)
    show ptG (yR r i v) j = if j + 1 = i + 1 then e8 (ptG r j).bs v else ptG r j
    rw [ih]
    by_cases e : j = i
    · rw [if_pos e, if_pos (by omega)]
    · rw [if_neg e, if_neg (by omega)]
theorem k5s (ps : List Pt) (i : Nat) (v : Int) {j : Nat} (h : j < ps.length) : q7 (yR ps i v) j = q7 ps j := by
  unfold q7; rw [k0m ps i v j h]; split <;> rfl
theorem k5r (ps : List Pt) (i : Nat) (v : Int) {j : Nat} (h : j < ps.length) : qP (yR ps i v) j = if j = i then v else qP ps j := by
  unfold qP; rw [k0m ps i v j h]; split <;> rfl
theorem PsW.set {ps : List Pt} (h : PsW ps) : ∀ (i : Nat) (v : Int), PsW (yR ps i v) := by
  induction ps with
  | nil => exact fun _ _ => PsW.nil
  | cons p r ih =>
    intro i v
    cases i with
    | zero =>
      intro q hq
      rcases List.mem_cons.1 hq with rfl | hq
      · exact h p (kb6 ..)
      · exact h q (kc0 _ hq)
    | succ i =>
      intro q hq
      rcases List.mem_cons.1 hq with rfl | hq
      · exact h q (kb6 ..)
      · exact ih (fun q hq => h q (kc0 _ hq)) i v q hq
theorem PkW.of {ps ms : List Pt} (h : PkW ps) (hl : ms.length = ps.length) (hb : ∀ i, i < ps.length → q7 ms i = q7 ps i) (hc : ∀ i, i < ps.length → 0 ≤ qP ms i ∧ qP ms i ≤ 15) : PkW ms := ⟨by rw [hl]; exact h.1, fun p hp => by
  obtain ⟨i, hi, rfl⟩ := List.mem_iff_getElem.1 hp
  have e : ptG ms i = ms[i] := by unfold ptG; rw [ka8, ka7 hi]; rfl
  have h1 := h.at (i := i) (by omega)
  have h2 : (ms[i]).bs = q7 ps i := by rw [← e]; exact hb i (by omega)
  have h3 := hc i (by omega)
  unfold qP at h3
  rw [e] at h3
  rw [h2]; exact ⟨h1.1, h1.2.1, h3⟩⟩
def AgW (d e : Int) : Prop := (qH e 1 = 0 → qH d 1 = 0) ∧ (qH e 2 = 0 → qH d 2 = 0) ∧ (qH e 4 = 0 → qH d 4 = 0) ∧ (qH e 8 = 0 → qH d 8 = 0)
theorem AgW.refl (d : Int) : AgW d d := ⟨id, id, id, id⟩
theorem AgW.ag {d e : Int} (h : AgW d e) {a b : Co} (h2 : AgP d a b) : AgP e a b := ⟨fun x => h2.1 (h.1 x), fun x => h2.2.1 (h.2.1 x), fun x => h2.2.2.1 (h.2.2.1 x), fun x => h2.2.2.2 (h.2.2.2 x)⟩
theorem u35 {ps ms : List Pt} (hb : ∀ i, i < ps.length → q7 ms i = q7 ps i) (hc : ∀ i, i < ps.length → AgW (qP ps i) (qP ms i)) (i : Nat) : i < ps.length → ∀ c, ChP ps i c → ChP ms i c := by
  induction i with
  | zero => intro hi c h; show LCo (q7 ms 0) c; rw [hb 0 hi]; exact h
  | succ i ih =>
    rintro hi c ⟨h1, c', h2, h3⟩
    refine ⟨?_, c', ih zo c' h2, (hc i zo).ag h3⟩
    rw [hb _ hi]; exact h1
theorem u1n {ps ms : List Pt} (h : PkW ps) (h2 : PkW ms) (hl : ms.length = ps.length) (hb : ∀ i, i < ps.length → q7 ms i = q7 ps i) (hc : ∀ i, i < ps.length → AgW (qP ps i) (qP ms i)) (h0 : vE ps = 0) : vE ms = 0 := by
  obtain ⟨c, hc1⟩ := (k0x h).1 h0
  refine (k0x h2).2 ⟨c, ?_⟩
  rw [hl]; exact u35 hb hc _ (by have := h.1; omega) c hc1
def orF : Bool := (kd3 16).all fun d => (kd3 16).all fun e => decide (0 ≤ aD (d : Int) (e : Int) ∧ aD (d : Int) (e : Int) ≤ 15) && [1, 2, 4, 8].all fun k => !(decide (qH (aD (d : Int) (e : Int)) k = 0)) || decide (qH (d : Int) k = 0)
theorem v0n : orF = true := by kernel_rfl
theorem v3q {d e : Int} (hd : 0 ≤ d ∧ d ≤ 15) (he : 0 ≤ e ∧ e ≤ 15) : (0 ≤ aD d e ∧ aD d e ≤ 15) ∧ AgW d (aD d e) := by
  obtain ⟨d, rfl⟩ : ∃ n : Nat, d = (n : Int) := ⟨d.toNat, by omega⟩
  obtain ⟨e, rfl⟩ : ∃ n : Nat, e = (n : Int) := ⟨e.toNat, by omega⟩
  have M := fun {n k : Nat} (h : n < k) => List.mem_range.2 h
  have h := List.all_eq_true.1 (List.all_eq_true.1 v0n d (M (by omega))) e (M (by omega))
  rw [Bool.and_eq_true, decide_eq_true_iff] at h
  have h2 : ∀ k : Int, k ∈ [(1 : Int), 2, 4, 8] → qH (aD (d : Int) (e : Int)) k = 0 → qH (d : Int) k = 0 := fun k hk e1 => by
    have := List.all_eq_true.1 h.2 k hk
    rw [decide_eq_true e1] at this
    exact of_decide_eq_true this
  exact ⟨h.1, h2 1 (by decide), h2 2 (by decide), h2 4 (by decide), h2 8 (by decide)⟩
def vD (ps : List Pt) : Nat → List Pt
  | 0 => ps
  | i + 1 => yR (vD ps i) i 15
theorem aE (ps : List Pt) : ∀ i, (vD ps i).length = ps.length
  | 0 => rfl
  | i + 1 => by rw [vD, bA, aE ps i]
theorem k5u (ps : List Pt) {j : Nat} (h : j < ps.length) : ∀ i, q7 (vD ps i) j = q7 ps j
  | 0 => rfl
  | i + 1 => by rw [vD, k5s _ _ _ (by rw [aE]; exact h), k5u ps h i]
theorem k5t (ps : List Pt) {j : Nat} (h : j < ps.length) : ∀ i, qP (vD ps i) j = if j < i then 15 else qP ps j
  | 0 => (if_neg (ke5 j)).symm
  | i + 1 => by
    rw [vD, k5r _ _ _ (by rw [aE]; exact h), k5t ps h i]
    by_cases e : j = i
    · rw [if_pos e, if_pos (by omega)]
    · rw [if_neg e]
      by_cases e2 : j < i
      · rw [if_pos e2, if_pos (by omega)]
      · rw [if_neg e2, if_neg (by omega)]
theorem v2n (a b : Co) : AgP 15 a b := ⟨fun e => absurd e (by decide), fun e => absurd e (by decide), fun e => absurd e (by decide), fun e => absurd e (by decide)⟩
theorem u8g {ps : List Pt} (h : PkW ps) (h15 : ∀ i, i < ps.length → qP ps i = 15) (i : Nat) : i < ps.length → ∃ c, ChP ps i c := by
  induction i with
  | zero => intro hi; obtain ⟨h1, h2, _⟩ := h.at hi; exact k7j h2.v h1.1
  | succ i ih =>
    intro hi
    obtain ⟨h1, h2, _⟩ := h.at hi
    obtain ⟨p, hp⟩ := k7j h2.v h1.1
    obtain ⟨c, hc⟩ := ih zo
    exact ⟨p, hp, c, hc, by rw [h15 i (by omega)]; exact v2n _ _⟩
theorem k9r {ps : List Pt} (h : PkW ps) {i : Nat} (hi : i < ps.length) {e : Int} (he : 0 ≤ e ∧ e ≤ 15) : PkW (yR ps i (aD (qP ps i) e)) ∧ (vE ps = 0 → vE (yR ps i (aD (qP ps i) e)) = 0) := by
  have hl := bA ps i (aD (qP ps i) e)
  have hb : ∀ j, j < ps.length → q7 (yR ps i (aD (qP ps i) e)) j = q7 ps j := fun j hj => k5s _ _ _ hj
  have ho := v3q (h.at hi).2.2 he
  have hc : ∀ j, j < ps.length → (0 ≤ qP (yR ps i (aD (qP ps i) e)) j ∧ qP (yR ps i (aD (qP ps i) e)) j ≤ 15) ∧ AgW (qP ps j) (qP (yR ps i (aD (qP ps i) e)) j) := fun j hj => by
    rw [k5r _ _ _ hj]
    by_cases e2 : j = i
    · rw [if_pos e2, e2]; exact ho
    · rw [if_neg e2]; exact ⟨(h.at hj).2.2, AgW.refl _⟩
  have h2 := h.of hl hb fun j hj => (hc j hj).1
  exact ⟨h2, u1n h h2 hl hb fun j hj => (hc j hj).2⟩
theorem k9s {ps : List Pt} (h : PkW ps) {i : Nat} (hi : i = ps.length) : PkW (vD ps i) ∧ vE (vD ps i) = 0 := by
  have hl := aE ps i
  have hc : ∀ j, j < ps.length → qP (vD ps i) j = 15 := fun j hj => by rw [k5t ps hj, if_pos (by omega)]
  have h2 := h.of hl (fun j hj => k5u ps hj i) fun j hj => by rw [hc j hj]; decide
  refine ⟨h2, (k0x h2).2 ?_⟩
  exact u8g h2 (fun j hj => hc j (by omega)) _ (by have := h2.1; omega)
def anF : Bool := (kd3 256).all fun d => decide (0 ≤ qH (d : Int) 15 ∧ qH (d : Int) 15 ≤ 15)
theorem v2l : anF = true := by kernel_rfl
theorem v2k {d : Int} (hd : 0 ≤ d ∧ d ≤ 255) : 0 ≤ qH d 15 ∧ qH d 15 ≤ 15 := by
  obtain ⟨d, rfl⟩ : ∃ n : Nat, d = (n : Int) := ⟨d.toNat, by omega⟩
  exact of_decide_eq_true (List.all_eq_true.1 v2l d (List.mem_range.2 (by omega)))
end Go.Proofs.YtbicifcgghmhaaaGreat
