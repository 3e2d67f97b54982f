/- Merged texts. -/
import Derived.Test.YtbicifcgghmhaaaGreatZW10
import Derived.Test.YtbicifcgghmhaaaGreatZL10R
namespace Go.Proofs.YtbicifcgghmhaaaGreat
open Go.ChangeShapes Go.WideShapes Go.ChangeAt Go.RowKit
set_option linter.unusedVariables false
set_option linter.unusedSimpArgs false
/-! chapter 10: boxes by what they hold -/
def kbC (n q : Nat) : Bool := decide (eC ((2 * (n : Int) + 2) / ((2 ^ (q + 1) : Nat) : Int)) = 1)
def anC : Bool := (List.range 127).all fun n => (List.range 127).all fun m => (decide (nZ (2 * (n : Int) + 2) (2 * (m : Int) + 2) = 0)) == ((List.range 7).all fun q => !(kbC n q) || kbC m q)
set_option maxRecDepth 100000 in
theorem v2b : anC = true := by kernel_rfl
theorem k6q {n q : Nat} (hq : q < 7) : gE (2 * (n : Int) + 2) (q + 1) = kbC n q := by
  unfold gE kbC
  by_cases h : eC ((2 * (n : Int) + 2) / ((2 ^ (q + 1) : Nat) : Int)) = 1
  · rw [decide_eq_true h, decide_eq_true ⟨by omega, by omega, h⟩]
  · rw [decide_eq_false h, decide_eq_false fun e => h e.2.2]
theorem KG.nat {k : Int} (h : KG k) : ∃ n : Nat, n < 127 ∧ k = 2 * (n : Int) + 2 := by
  unfold KG at h
  exact ⟨((k - 2) / 2).toNat, by omega, by omega⟩
theorem u80 {k l : Int} (hk : KG k) (hl : KG l) : nZ k l = 0 ↔ ∀ q, 1 ≤ q → q ≤ 7 → gE k q = true → gE l q = true := by
  obtain ⟨n, hn, rfl⟩ := hk.nat
  obtain ⟨m, hm, rfl⟩ := hl.nat
  have h := List.all_eq_true.1 (List.all_eq_true.1 v2b n (List.mem_range.2 hn)) m (List.mem_range.2 hm)
  have h := (beq_iff_eq).1 h
  constructor
  · intro h1 q hq1 hq2 h2
    rw [decide_eq_true h1] at h
    obtain ⟨r, rfl⟩ : ∃ r, q = r + 1 := ⟨q - 1, by omega⟩
    have h3 := List.all_eq_true.1 h.symm r (List.mem_range.2 (by omega))
    rw [k6q (by omega)] at h2 ⊢
    rw [h2] at h3
    simpa using h3
  · intro h1
    have h2 : ((List.range 7).all fun q => !(kbC n q) || kbC m q) = true := List.all_eq_true.2 fun q hq => by
      have hq := List.mem_range.1 hq
      cases e : kbC n q with
      | false => rfl
      | true =>
        have h3 := h1 (q + 1) (by omega) (by omega) (by rw [k6q hq]; exact e)
        rw [k6q hq] at h3
        rw [h3]; rfl
    rw [h2] at h
    exact of_decide_eq_true h
theorem k73 {a b : List Int} {n m : Nat} (ha : a.length = n * 2) (hb : b.length = m * 2) (va : eB a n = true) (vb : eB b m = true) : wT a b = true ↔ ∀ x, aW a x = true → aW b x = true := by
  constructor
  · intro h x hx
    obtain ⟨p, hp, h1⟩ := yZ.1 hx
    obtain ⟨q, hq, h2⟩ := List.any_eq_true.1 (List.all_eq_true.1 h p hp)
    have h2 := of_decide_eq_true h2
    exact yZ.2 ⟨q, hq, by omega, by omega⟩
  · intro h
    exact u6y ((v9 ha).1 va).2 ((v9 hb).1 vb).2 fun x hx => yZ.1 (h x (yZ.2 hx))
theorem u61 {a b : List (List Int)} : sgB a b = false ↔ ∀ m ∈ a, m ∈ b := by
  unfold sgB
  rw [decide_eq_false_iff_not]
  constructor
  · intro h m hm
    by_cases e : m ∈ b
    · exact e
    · exact absurd ⟨m, hm, e⟩ h
  · rintro h ⟨m, hm, e⟩
    exact e (h m hm)
def NI (a b : Bx) : Prop := (∀ q, 1 ≤ q → q ≤ 7 → gE a.k q = true → gE b.k q = true) ∧ (∀ x, aW a.r x = true → aW b.r x = true) ∧ (∀ m ∈ a.m, m ∈ b.m) ∧ (∀ x, aW a.s x = true → aW b.s x = true)
theorem NI.refl (a : Bx) : NI a a := ⟨fun _ _ _ h => h, fun _ h => h, fun _ h => h, fun _ h => h⟩
theorem NI.trans {a b c : Bx} (h : NI a b) (h2 : NI b c) : NI a c := ⟨fun q h3 h4 h5 => h2.1 q h3 h4 (h.1 q h3 h4 h5), fun x h3 => h2.2.1 x (h.2.1 x h3), fun m h3 => h2.2.2.1 m (h.2.2.1 m h3), fun x h3 => h2.2.2.2 x (h.2.2.2 x h3)⟩
theorem BxV.sets {b : Bx} (h : BxV b) : (eB b.r b.rn = true ∧ kB b.r b.rn = b.r ∧ 1 ≤ b.rn) ∧ (eB b.s b.sn = true ∧ kB b.s b.sn = b.s ∧ 1 ≤ b.sn) := by
  obtain ⟨_, p2, _, p4⟩ := vN h.2.2
  obtain ⟨r1, r2, _, r4⟩ := dD p2
  obtain ⟨s1, s2, _, s4⟩ := dD p4
  exact ⟨⟨r1, r2, r4⟩, s1, s2, s4⟩
theorem k63 {a b : Bx} (ha : BxV a) (hb : BxV b) : nP a.k a.r a.rn a.m a.s a.sn b.k b.r b.rn b.m b.s b.sn = true ↔ NI a b := by
  obtain ⟨⟨a1, a2, _⟩, a3, a4, _⟩ := ha.sets
  obtain ⟨⟨b1, b2, _⟩, b3, b4, _⟩ := hb.sets
  unfold nP NI
  rw [a2, a4, b2, b4, Bool.and_eq_true, Bool.and_eq_true, Bool.and_eq_true, decide_eq_true_iff, u80 ha.2.1 hb.2.1, k73 ha.1.1 hb.1.1 a1 b1, k73 ha.1.2.1 hb.1.2.1 a3 b3, Bool.not_eq_true', u61]
def HC (b : Bx) (c : Co) : Prop := (1 ≤ c.k ∧ c.k ≤ 7 ∧ gE b.k c.k.toNat = true) ∧ aW b.r c.r = true ∧ c.m ∈ b.m ∧ aW b.s c.s = true
theorem mU {b : Bx} (h : BxV b) {c : Co} : eF b.k b.r b.rn b.m b.s b.sn c.k c.r c.m c.s = true ↔ HC b c := by
  obtain ⟨⟨_, a2, _⟩, _, a4, _⟩ := h.sets
  unfold eF HC kjB gM
  rw [a2, a4, Bool.and_eq_true, Bool.and_eq_true, Bool.and_eq_true, Bool.and_eq_true, decide_eq_true_iff, decide_eq_true_iff]
  exact ⟨fun ⟨⟨a, b⟩, d⟩ => ⟨⟨a.1, a.2, b⟩, d⟩, fun ⟨⟨a, b, d⟩, f⟩ => ⟨⟨⟨a, b⟩, d⟩, f⟩⟩
theorem HC.mono {a b : Bx} (h : NI a b) {c : Co} (hc : HC a c) : HC b c := ⟨⟨hc.1.1, hc.1.2.1, h.1 _ (by have := hc.1.1; omega) (by have := hc.1.2.1; omega) hc.1.2.2⟩, h.2.1 _ hc.2.1, h.2.2.1 _ hc.2.2.1, h.2.2.2 _ hc.2.2.2⟩
def LCo (xs : List Bx) (c : Co) : Prop := ∃ b ∈ xs, HC b c
theorem u6q {xs : List Bx} (h : BsV xs) (hn : xs.length ≤ 64) {k r : Int} {m : List Int} {z : Int} : wV (kK xs) k r m z = true ↔ LCo xs ⟨k, r, m, z⟩ := by
  rw [h.eq hn, k74]
  constructor
  · rintro ⟨b, hb, hc⟩; exact ⟨b, hb, (mU (h b hb)).1 hc⟩
  · rintro ⟨b, hb, hc⟩; exact ⟨b, hb, (mU (h b hb)).2 hc⟩
theorem LCo.app {xs ys : List Bx} {c : Co} : LCo (xs ++ ys) c ↔ LCo xs c ∨ LCo ys c := by
  constructor
  · rintro ⟨b, hb, h⟩; exact (List.mem_append.1 hb).imp (fun h1 => ⟨b, h1, h⟩) fun h1 => ⟨b, h1, h⟩
  · rintro (⟨b, hb, h⟩ | ⟨b, hb, h⟩)
    · exact ⟨b, List.mem_append_left _ hb, h⟩
    · exact ⟨b, List.mem_append_right _ hb, h⟩
/-! boxes that are reduced away -/
def GO (xs : List Bx) (i j : Nat) : Prop := j ≠ i ∧ NI (u9 xs i) (u9 xs j) ∧ (j < i ∨ ¬ NI (u9 xs j) (u9 xs i))
theorem k06 {xs : List Bx} (h : BsV xs) {i j : Nat} (hi : i < xs.length) (hj : j < xs.length) : nE xs i j = true ↔ GO xs i j := by
  have e1 := k63 (h _ (qR hi)) (h _ (qR hj))
  have e2 := k63 (h _ (qR hj)) (h _ (qR hi))
  have e1 : niE xs i xs j = true ↔ NI (u9 xs i) (u9 xs j) := e1
  have e2 : niE xs j xs i = true ↔ NI (u9 xs j) (u9 xs i) := e2
  unfold nE GO
  rw [Bool.and_eq_true, Bool.and_eq_true, Bool.or_eq_true, decide_eq_true_iff, decide_eq_true_iff, e1, Bool.not_eq_true', ← Bool.not_eq_true, e2]
theorem GO.trans {xs : List Bx} {i j k : Nat} (h : GO xs i j) (h2 : GO xs j k) : GO xs i k := by
  obtain ⟨a1, a2, a3⟩ := h
  obtain ⟨b1, b2, b3⟩ := h2
  have key : NI (u9 xs k) (u9 xs i) → k < i := fun h => by
    have c1 : k < j := b3.elim id fun h9 => absurd (h.trans a2) h9
    have c2 : j < i := a3.elim id fun h9 => absurd (b2.trans h) h9
    omega
  refine ⟨fun e => ?_, a2.trans b2, ?_⟩
  · have := key (by rw [e]; exact NI.refl _); omega
  · by_cases e : NI (u9 xs k) (u9 xs i)
    · exact .inl (key e)
    · exact .inr e
theorem k93 {p q : Nat → Bool} (h : ∀ x, p x = true → q x = true) : ∀ l : List Nat, (∃ x ∈ l, q x = true ∧ p x = false) → l.countP p < l.countP q
  | [], ⟨x, hx, _⟩ => by cases hx
  | a :: l, ⟨x, hx, h1, h2⟩ => by
    have hm : l.countP p ≤ l.countP q := List.countP_mono_left fun x _ => h x
    rw [List.countP_cons, List.countP_cons]
    rcases List.mem_cons.1 hx with rfl | hx
    · rw [h1, h2]; simp only [if_true]; rw [if_neg (by decide)]; omega
    · have := k93 h l ⟨x, hx, h1, h2⟩
      cases e : p a with
      | true => rw [h a e]; omega
      | false => rw [if_neg (by decide)]; split <;> omega
theorem k76 {xs : List Bx} (h : BsV xs) : ∀ (N : Nat) (i : Nat), i < xs.length → (List.range xs.length).countP (fun j => nE xs i j) ≤ N → ∃ j, j < xs.length ∧ goB xs j = false ∧ NI (u9 xs i) (u9 xs j)
  | N, i, hi, hc => by
    cases e : goB xs i with
    | false => exact ⟨i, hi, e, NI.refl _⟩
    | true =>
      obtain ⟨j, hj, h1⟩ := of_decide_eq_true e
      have g1 := (k06 h hi hj).1 h1
      have hlt : (List.range xs.length).countP (fun k => nE xs j k && decide (k < xs.length)) < (List.range xs.length).countP (fun k => nE xs i k && decide (k < xs.length)) := by
        refine k93 (fun k hk => ?_) _ ⟨j, List.mem_range.2 hj, ?_, ?_⟩
        · rw [Bool.and_eq_true, decide_eq_true_iff] at hk ⊢
          exact ⟨(k06 h hi hk.2).2 (g1.trans ((k06 h hj hk.2).1 hk.1)), hk.2⟩
        · rw [h1, decide_eq_true hj]; rfl
        · rw [u70 rfl]; rfl
      have ec : ∀ a, (List.range xs.length).countP (fun k => nE xs a k && decide (k < xs.length)) = (List.range xs.length).countP (fun k => nE xs a k) := fun a => List.countP_congr fun k hk => by
        rw [decide_eq_true (List.mem_range.1 hk), Bool.and_true]
      rw [ec, ec] at hlt
      cases N with
      | zero => omega
      | succ N =>
        obtain ⟨t, t1, t2, t3⟩ := k76 h N j hj zo
        exact ⟨t, t1, t2, g1.2.1.trans t3⟩
theorem i7 {xs : List Bx} {b : Bx} : ∀ i, b ∈ oB xs i ↔ ∃ j, j < i ∧ goB xs j = false ∧ b = u9 xs j
  | 0 => ⟨fun h => (by cases h), fun ⟨j, hj, _⟩ => absurd hj (Nat.not_lt_zero j)⟩
  | i + 1 => by
    have ih := i7 (xs := xs) (b := b) i
    rw [oB]
    cases e : goB xs i with
    | true =>
      rw [if_pos rfl, ih]
      constructor
      · rintro ⟨j, hj, h⟩; exact ⟨j, by omega, h⟩
      · rintro ⟨j, hj, h1, h2⟩
        refine ⟨j, ?_, h1, h2⟩
        by_cases e2 : j = i
        · rw [e2, e] at h1; cases h1
        · omega
    | false =>
      rw [if_neg (by decide), List.mem_append, ih, List.mem_singleton]
      constructor
      · rintro (⟨j, hj, h⟩ | h)
        · exact ⟨j, by omega, h⟩
        · exact ⟨i, by omega, e, h⟩
      · rintro ⟨j, hj, h1, h2⟩
        by_cases e2 : j = i
        · subst e2; exact .inr h2
        · exact .inl ⟨j, by omega, h1, h2⟩
theorem u9m {xs : List Bx} (h : BsV xs) : BsV (oB xs xs.length) := fun b hb => by
  obtain ⟨j, hj, _, rfl⟩ := (i7 _).1 hb
  exact h _ (qR hj)
theorem u9l {xs : List Bx} (h : BsV xs) (c : Co) : LCo (oB xs xs.length) c ↔ LCo xs c := by
  constructor
  · rintro ⟨b, hb, hc⟩
    obtain ⟨j, hj, _, rfl⟩ := (i7 _).1 hb
    exact ⟨_, qR hj, hc⟩
  · rintro ⟨b, hb, hc⟩
    obtain ⟨i, hi, rfl⟩ := List.mem_iff_getElem.1 hb
    have e : u9 xs i = xs[i] := by unfold u9; rw [List.getD_eq_getElem?_getD, List.getElem?_eq_getElem hi]; rfl
    obtain ⟨j, hj, h1, h2⟩ := k76 h _ i hi (Nat.le_refl _)
    exact ⟨u9 xs j, (i7 _).2 ⟨j, hj, h1, rfl⟩, HC.mono (e ▸ h2) hc⟩
theorem k5a {xs : List Bx} (h : BsV xs) (hn : xs.length ≤ 64) : aZ xs = oB xs xs.length ∧ iM xs = 0 ∧ BsV (aZ xs) := by
  obtain ⟨h1, h2⟩ := k58 (h.vb hn)
  exact ⟨h1, h2, by rw [h1]; exact u9m h⟩
theorem pV {xs : List Bx} (h : BsV xs) (hn : xs.length ≤ 64) (c : Co) : LCo (aZ xs) c ↔ LCo xs c := by
  rw [(k5a h hn).1]; exact u9l h c
end Go.Proofs.YtbicifcgghmhaaaGreat
namespace Go.Proofs.YtbicifcgghmhaaaGreat
open Go.ChangeShapes Go.WideShapes Go.ChangeAt Go.RowKit
set_option linter.unusedVariables false
set_option linter.unusedSimpArgs false
/-! chapter 10: what is in two boxes, in two lists -/
theorem k4b {n : Nat} (h : n < 256) : IntKind.i64.wrap ((n : Nat) : Int) = (n : Int) := by
  unfold IntKind.wrap; simp [IntKind.bits, IntKind.signed]; omega
theorem k9b {n : Nat} (h : n < 256) : (BitVec.ofInt 64 (n : Int)).toNat = n := by
  rw [BitVec.ofInt_natCast, BitVec.toNat_ofNat]; exact Nat.mod_eq_of_lt (by omega)
theorem k0o {n m : Nat} (hn : n < 256) (hm : m < 256) : qG (n : Int) (m : Int) = ((n &&& m : Nat) : Int) := by
  have h1 : n &&& m ≤ n := Nat.and_le_left
  show IntKind.i64.wrap (((BitVec.ofInt 64 (n : Int) &&& BitVec.ofInt 64 (m : Int)).toNat : Nat) : Int) = _
  rw [BitVec.toNat_and, k9b hn, k9b hm]
  exact k4b (by omega)
theorem u6h {n q : Nat} (hn : n < 256) : eC ((n : Int) / ((2 ^ q : Nat) : Int)) = 1 ↔ n.testBit q = true := by
  have h1 : n / 2 ^ q ≤ n := Nat.div_le_self _ _
  have h2 : eC ((n : Int) / ((2 ^ q : Nat) : Int)) = ((n / 2 ^ q % 2 : Nat) : Int) := by
    rw [← Int.natCast_ediv]
    show qG ((n / 2 ^ q : Nat) : Int) ((1 : Nat) : Int) = _
    rw [k0o (by omega) (by decide), Nat.and_one_is_mod]
  rw [h2, Nat.testBit_eq_decide_div_mod_eq, decide_eq_true_iff]
  omega
theorem rS {n q : Nat} (hn : n < 256) (h1 : 1 ≤ q) (h2 : q ≤ 7) : gE (n : Int) q = true ↔ n.testBit q = true := by
  unfold gE
  rw [decide_eq_true_iff, u6h hn]
  exact ⟨fun e => e.2.2, fun e => ⟨h1, h2, e⟩⟩
theorem KG.nat2 {k : Int} (h : KG k) : ∃ n : Nat, n < 256 ∧ n % 2 = 0 ∧ n ≤ 254 ∧ k = (n : Int) := by
  unfold KG at h
  exact ⟨k.toNat, by omega, by omega, by omega, by omega⟩
theorem k9r {k l : Int} (hk : KG k) (hl : KG l) : (qG k l = 0 ∨ KG (qG k l)) ∧ ∀ q, 1 ≤ q → q ≤ 7 → (gE (qG k l) q = true ↔ gE k q = true ∧ gE l q = true) := by
  obtain ⟨n, hn, en, ln, rfl⟩ := hk.nat2
  obtain ⟨m, hm, em, lm, rfl⟩ := hl.nat2
  have h1 : n &&& m ≤ n := Nat.and_le_left
  rw [k0o hn hm]
  constructor
  · have h2 : (n &&& m).testBit 0 = false := by
      rw [Nat.testBit_and, Nat.testBit_zero, decide_eq_false (by omega)]; rfl
    rw [Nat.testBit_zero, decide_eq_false_iff_not] at h2
    unfold KG; omega
  · intro q q1 q2
    rw [rS (by omega) q1 q2, rS hn q1 q2, rS hm q1 q2, Nat.testBit_and, Bool.and_eq_true]
theorem k95 {a b : List (List Int)} {m : List Int} : ∀ i, i ≤ a.length → (m ∈ uT a b i ↔ m ∈ b ∧ ∃ j, j < i ∧ List.getD a j [] = m)
  | 0, _ => ⟨fun h => (by cases h), fun ⟨_, j, hj, _⟩ => absurd hj (Nat.not_lt_zero j)⟩
  | i + 1, hi => by
    have ih := k95 (a := a) (b := b) (m := m) i (by omega)
    rw [uT]
    cases e : gM b (List.getD a i []) with
    | true =>
      rw [if_pos rfl, List.mem_append, ih, List.mem_singleton]
      constructor
      · rintro (⟨h1, j, hj, h2⟩ | h)
        · exact ⟨h1, j, by omega, h2⟩
        · exact ⟨by rw [h]; exact of_decide_eq_true e, i, by omega, h.symm⟩
      · rintro ⟨h1, j, hj, h2⟩
        by_cases e2 : j = i
        · subst e2; exact .inr h2.symm
        · exact .inl ⟨h1, j, by omega, h2⟩
    | false =>
      rw [if_neg (by decide), ih]
      constructor
      · rintro ⟨h1, j, hj, h2⟩; exact ⟨h1, j, by omega, h2⟩
      · rintro ⟨h1, j, hj, h2⟩
        by_cases e2 : j = i
        · subst e2; rw [h2] at e; exact absurd h1 (of_decide_eq_false e)
        · exact ⟨h1, j, by omega, h2⟩
theorem k96 {a b : List (List Int)} {m : List Int} : m ∈ uT a b a.length ↔ m ∈ a ∧ m ∈ b := by
  rw [k95 a.length (Nat.le_refl _)]
  constructor
  · rintro ⟨h1, j, hj, rfl⟩
    refine ⟨?_, h1⟩
    rw [List.getD_eq_getElem?_getD, List.getElem?_eq_getElem hj]; exact List.getElem_mem hj
  · rintro ⟨h1, h2⟩
    obtain ⟨j, hj, rfl⟩ := List.mem_iff_getElem.1 h1
    exact ⟨h2, j, hj, by rw [List.getD_eq_getElem?_getD, List.getElem?_eq_getElem hj]; rfl⟩
theorem k4g {ms : List (List Int)} (h : l5 ms = true) : MsV ms := by
  obtain ⟨h1, h2, h3⟩ := of_decide_eq_true h
  have e : ∀ i (hi : i < ms.length), List.getD ms i [] = ms[i] := fun i hi => by rw [List.getD_eq_getElem?_getD, List.getElem?_eq_getElem hi]; rfl
  refine ⟨fun m hm => ?_, List.pairwise_iff_getElem.2 fun i j hi hj hij => ?_⟩
  · obtain ⟨i, hi, rfl⟩ := List.mem_iff_getElem.1 hm
    have h4 := h3 i hi
    unfold vmE at h4
    rw [Bool.and_eq_true, e i hi] at h4; exact h4.1
  · have h4 := h3 j hj
    unfold vmE at h4
    rw [Bool.and_eq_true, e j hj, Bool.not_eq_true'] at h4
    intro e2
    refine of_decide_eq_false h4.2 ?_
    rw [← e2]
    exact List.mem_iff_getElem.2 ⟨i, by rw [List.length_take]; omega, by rw [List.getElem_take]⟩
theorem k94 (a b : List (List Int)) : ∀ i, i ≤ a.length → (uT a b i).Sublist (List.take i a)
  | 0, _ => List.nil_sublist _
  | i + 1, hi => by
    have ih := k94 a b i (by omega)
    have e : List.take (i + 1) a = List.take i a ++ [List.getD a i []] := by
      rw [List.take_succ_eq_append_getElem (by omega), List.getD_eq_getElem?_getD, List.getElem?_eq_getElem (by omega)]; rfl
    rw [uT, e]; split
    · exact List.Sublist.append ih (List.Sublist.refl _)
    · exact ih.trans (List.sublist_append_left _ _)
theorem v1l {a b : List (List Int)} (h : l5 a = true) (h1 : 1 ≤ (uT a b a.length).length) : l5 (uT a b a.length) = true := by
  have hs := k94 a b a.length (Nat.le_refl _)
  rw [List.take_length] at hs
  have hm := k4g h
  have hl := (of_decide_eq_true h).2.1
  exact k4e ⟨fun m hm2 => hm.1 m (hs.mem hm2), hm.2.sublist hs⟩ h1 (Nat.le_trans hs.length_le hl)
theorem l4 {l : List Int} {n : Nat} {lo hi : Int} (hl : l.length = n * 2) (h : eA l n lo hi = true) {x : Int} (hx : aW l x = true) : lo ≤ x ∧ x ≤ hi := by
  unfold eA at h
  rw [Bool.and_eq_true, decide_eq_true_iff] at h
  obtain ⟨h1, h2, h3, h4⟩ := h
  have hok := ((v9 hl).1 h1).2
  obtain ⟨p, hp, h5⟩ := yZ.1 hx
  obtain ⟨j, hj, rfl⟩ := (u6 hl).1 hp
  have mono : ∀ a b, a ≤ b → b < n → List.getD l (a * 2) 0 ≤ List.getD l (b * 2) 0 ∧ List.getD l (a * 2 + 1) 0 ≤ List.getD l (b * 2 + 1) 0 := fun a b hab hb => by
    induction b with
    | zero => obtain rfl : a = 0 := by omega
              exact ⟨Int.le_refl _, Int.le_refl _⟩
    | succ b ih =>
      by_cases e : a = b + 1
      · subst e; exact ⟨Int.le_refl _, Int.le_refl _⟩
      · have i1 := ih (by omega) (by omega)
        have g := gV _ hok b _ _ (by rw [List.getElem?_eq_getElem (by rw [qX hl]; omega), p6 hl (by omega)]) (by rw [List.getElem?_eq_getElem (by rw [qX hl]; omega), p6 hl (by omega)])
        have v1 := cS hok _ ((u6 hl).2 ⟨b, by omega, rfl⟩)
        have v2 := cS hok _ ((u6 hl).2 ⟨b + 1, by omega, rfl⟩)
        unfold dA at v1 v2
        simp only at g v1 v2
        omega
  have m1 := mono 0 j (Nat.zero_le _) hj
  have m2 := mono j (n - 1) (by omega) (by omega)
  simp only [Nat.zero_mul, Nat.zero_add] at m1
  simp only at h5
  omega
theorem k4d {l : List Int} {n : Nat} {lo hi : Int} (hl : l.length = n * 2) (h1 : eB l n = true) (h2 : 1 ≤ n) (h : ∀ x, aW l x = true → lo ≤ x ∧ x ≤ hi) : eA l n lo hi = true := by
  have hok := ((v9 hl).1 h1).2
  have e : ∀ j, j < n → dA (List.getD l (j * 2) 0, List.getD l (j * 2 + 1) 0) := fun j hj => cS hok _ ((u6 hl).2 ⟨j, hj, rfl⟩)
  have e0 := e 0 (by omega); have e1 := e (n - 1) (by omega)
  unfold dA at e0 e1
  simp only [Nat.zero_mul, Nat.zero_add] at e0 e1
  have a1 := h (List.getD l 0 0) (u1i hl (k := 0) (by omega) (by simp only [Nat.zero_mul, Nat.zero_add]; omega))
  have a2 := h (List.getD l ((n - 1) * 2 + 1) 0) (u1i hl (k := n - 1) (by omega) (by omega))
  exact k4c h1 ⟨h2, a1.1, a2.2⟩
theorem k03 {a b : List Int} {n m : Nat} (ha : a.length = n * 2) (hb : b.length = m * 2) : eB (uB (kB a n) (kB b m)) (qL (kB a n) (kB b m)) = true := (v9 (uS _ _)).2 ⟨v7 _ _, u3t ha hb⟩
theorem k6z {a b : List Int} {n m : Nat} (ha : a.length = n * 2) (hb : b.length = m * 2) : (aL (qN (kB a n)) (qN (kB b m))).length ≤ n + m := by
  have := k02 _ (qN (kB a n)) (qN (kB b m)) (Nat.le_refl _) (aY ha) (aY hb)
  rw [qX (qQ ha), qX (qQ hb)] at this
  have h1 := (jQ (l := a) (n := n)).2
  have h2 := (jQ (l := b) (n := m)).2
  omega
theorem u3u {a b : List Int} {n m : Nat} (ha : a.length = n * 2) (hb : b.length = m * 2) (hq : n + m ≤ 64) {x : Int} : aW (uB (kB a n) (kB b m)) x = true ↔ aW (kB a n) x = true ∧ aW (kB b m) x = true := by
  have h1 := k6z ha hb
  rw [yZ, yZ, yZ]
  unfold uB; rw [gC, List.take_of_length_le (by omega)]
  exact mT _ _ x
def BxF (b : Bx) : Prop := b.rn ≤ 5 ∧ b.sn ≤ 5
def BsF (xs : List Bx) : Prop := ∀ b ∈ xs, BxF b
def crX (a b : Bx) : Bx := kE (qG a.k b.k) (uB (kB a.r a.rn) (kB b.r b.rn)) (qL (kB a.r a.rn) (kB b.r b.rn)) (uT a.m b.m a.m.length) (uB (kB a.s a.sn) (kB b.s b.sn)) (qL (kB a.s a.sn) (kB b.s b.sn))
def okX (b : Bx) : Bool := eY b.k b.r b.rn b.m b.s b.sn
theorem v4m (q : Nat) : gE 0 q = false := decide_eq_false fun ⟨_, _, h⟩ => by
  rw [Int.zero_ediv] at h
  exact absurd h (by decide)
theorem v1j {a : Bx} (h : zA a) (b : Bx) : zA (crX a b) := by
  refine ⟨uS _ _, uS _ _, Nat.le_trans (v7 _ _) (by decide), Nat.le_trans (v7 _ _) (by decide), ?_, o4 h.2.2.2.2.2 _ _⟩
  have h1 := cC a.m b.m a.m.length
  have h2 := h.2.2.2.2.1
  show List.length (uT _ _ _) ≤ _
  omega
theorem u4j {a b : Bx} (ha : BxV a) (hb : BxV b) (h : okX (crX a b) = true) : BxV (crX a b) := by
  refine ⟨v1j ha.1 b, ?_, h⟩
  exact (k9r ha.2.1 hb.2.1).1.elim (fun e => absurd e (vN h).1.1) id
theorem u2a {a b : Bx} (ha : BxV a) (hb : BxV b) (f1 : a.rn + b.rn ≤ 64) (f2 : a.sn + b.sn ≤ 64) (c : Co) : okX (crX a b) = true ∧ HC (crX a b) c ↔ HC a c ∧ HC b c := by
  obtain ⟨⟨wr, ws, _⟩, ka, oa⟩ := id ha
  obtain ⟨⟨vr, vs, _⟩, kb, ob⟩ := id hb
  obtain ⟨⟨a1, a2, _⟩, a3, a4, _⟩ := BxV.sets ha
  obtain ⟨⟨b1, b2, _⟩, b3, b4, _⟩ := BxV.sets hb
  obtain ⟨pa1, pa2, pa3, pa4⟩ := vN ha.2.2
  obtain ⟨d1, d2⟩ := k9r ka kb
  have hr : ∀ x, aW (crX a b).r x = true ↔ aW a.r x = true ∧ aW b.r x = true := fun x => by
    have := u3u (x := x) wr vr (by omega)
    rw [a2, b2] at this; show aW (uB (kB a.r a.rn) (kB b.r b.rn)) x = true ↔ _
    rw [a2, b2]; exact this
  have hs : ∀ x, aW (crX a b).s x = true ↔ aW a.s x = true ∧ aW b.s x = true := fun x => by
    have := u3u (x := x) ws vs (by omega)
    rw [a4, b4] at this; show aW (uB (kB a.s a.sn) (kB b.s b.sn)) x = true ↔ _
    rw [a4, b4]; exact this
  have hm : ∀ m, m ∈ (crX a b).m ↔ m ∈ a.m ∧ m ∈ b.m := fun m => k96
  have key : HC (crX a b) c ↔ HC a c ∧ HC b c := by
    unfold HC
    rw [hr, hs, hm]
    constructor
    · rintro ⟨⟨q1, q2, q3⟩, ⟨r1, r2⟩, ⟨m1, m2⟩, s1, s2⟩
      have := (d2 c.k.toNat (by omega) (by omega)).1 q3
      exact ⟨⟨⟨q1, q2, this.1⟩, r1, m1, s1⟩, ⟨q1, q2, this.2⟩, r2, m2, s2⟩
    · rintro ⟨⟨⟨q1, q2, q3⟩, r1, m1, s1⟩, ⟨_, _, q4⟩, r2, m2, s2⟩
      exact ⟨⟨q1, q2, (d2 c.k.toNat (by omega) (by omega)).2 ⟨q3, q4⟩⟩, ⟨r1, r2⟩, ⟨m1, m2⟩, s1, s2⟩
  rw [key]
  refine ⟨fun h => h.2, fun h => ⟨?_, h⟩⟩
  have hc := key.2 h
  have hk : ¬ qG a.k b.k = 0 := fun e => by
    have h1 : gE (qG a.k b.k) c.k.toNat = true := hc.1.2.2
    rw [e, v4m] at h1; cases h1
  have hg : KG (qG a.k b.k) := d1.elim (fun e => absurd e hk) id
  have ne : ∀ {l : List Int} {n : Nat} {x : Int}, l.length = n * 2 → aW l x = true → 1 ≤ n := fun {l n x} hl hx => by
    obtain ⟨p, hp, _⟩ := yZ.1 hx
    have := List.length_pos_of_mem hp
    rw [qX hl] at this; omega
  have lr : (crX a b).r.length = (crX a b).rn * 2 := uS _ _
  have ls : (crX a b).s.length = (crX a b).sn * 2 := uS _ _
  refine k3u hg.ok.1 ?_ ?_ ?_
  · exact k4d lr (k03 wr vr) (ne lr hc.2.1) fun x hx => l4 wr pa2 ((hr x).1 hx).1
  · exact v1l pa3 (List.length_pos_of_mem hc.2.2.1)
  · exact k4d ls (k03 ws vs) (ne ls hc.2.2.2) fun x hx => l4 ws pa4 ((hs x).1 hx).1
theorem rP {a b : List Int} {n m : Nat} (ha : a.length = n * 2) (hb : b.length = m * 2) (h : n + m < 64) : lH a n b m = true := by
  refine u6m ?_
  have := k6z ha hb
  unfold qL; rw [List.length_take]; omega
/-! made boxes have few spans -/
theorem k6c {l : List Int} {n : Nat} (hl : l.length = n * 2) : vE l n ≤ n := by
  cases e : rgB l n with
  | false => rw [(rL e).2.2]; exact Nat.zero_le _
  | true =>
    have h1 := k6t hl (i6.1 e)
    by_cases h2 : lI l ≤ 64
    · rw [(rK e h2).2.2]; exact h1
    · rw [(k6b e (by omega)).2.2]; exact Nat.zero_le _
theorem v1z {l : List Int} (h : Byt l) : BxF (boX l) := by
  have b1 : Byt (bo1 l) := qI _ (qI _ h)
  have b2 : Byt (bo2 l) := vS b1 _
  have b3 : Byt (bo3 l) := aA b2
  have n1 := q8 (uA (bo2 l) 5) 5 (yU b2 5)
  have n2 := q8 (uA (bo3 l) 4) 4 (yU b3 4)
  obtain ⟨_, r2, r3⟩ := k10 u9h (by decide) (bo2 l) (by show kD _ 5 < 5; omega)
  obtain ⟨_, s2, s3⟩ := k10 u93 (by decide) (bo3 l) (by show kD _ 4 < 4; omega)
  have e1 := k6c r3.1
  have e2 := k6c s3.1
  exact ⟨Nat.le_trans e1 r2, Nat.le_trans e2 (Nat.le_trans s2 (by decide))⟩
theorem BsF.nil : BsF [] := fun b hb => by cases hb
theorem BsF.app {a b : List Bx} (h : BsF a) (h2 : BsF b) : BsF (a ++ b) := fun m hm => (List.mem_append.1 hm).elim (h m) (h2 m)
theorem BsF.one {b : Bx} (h : BxF b) : BsF [b] := fun m hm => by rw [List.mem_singleton.1 hm]; exact h
theorem BsF.box {xs : List Bx} (h : BsF xs) {i : Nat} (hi : i < xs.length) : BxF (kE (kR xs i) (k8 xs i) (kU xs i) (kS xs i) (kZ xs i) (kT xs i)) := h _ (qR hi)
theorem u52 {l : List Int} (h : Byt l) : ∀ i, BsF (bbL l i)
  | 0 => BsF.nil
  | i + 1 => (u52 h i).app (BsF.one (v1z (fN h i)))
end Go.Proofs.YtbicifcgghmhaaaGreat
