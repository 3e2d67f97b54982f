/- Merged texts. -/
import Derived.Test.YtbicifcgghmhaaaGreatZW10
import Derived.Test.YtbicifcgghmhaaaGreatZL10R
namespace Go.Proofs.YtbicifcgghmhaaaGreat
open Go.ChangeShapes Go.WideShapes Go.ChangeAt Go.RowKit
set_option linter.unusedVariables false
set_option linter.unusedSimpArgs false
/-! chapter 10: boxes by what they hold -/
def kbC (n q : Nat) : Bool := decide (fB ((2 * (n : Int) + 2) / ((2 ^ (q + 1) : Nat) : Int)) = 1)
def anC : Bool := (List.range 127).all fun n => (List.range 127).all fun m => (decide (pB (2 * (n : Int) + 2) (2 * (m : Int) + 2) = 0)) == ((List.range 7).all fun q => !(kbC n q) || kbC m q)
set_option maxRecDepth 100000 in
theorem v28 : anC = true := by kernel_rfl
theorem k79 {n q : Nat} (hq : q < 7) : n6 (2 * (n : Int) + 2) (q + 1) = kbC n q := by
  unfold n6 kbC
  by_cases h : fB ((2 * (n : Int) + 2) / ((2 ^ (q + 1) : Nat) : Int)) = 1
  · rw [decide_eq_true h, decide_eq_true ⟨by omega, by omega, h⟩]
  · rw [decide_eq_false h, decide_eq_false fun e => h e.2.2]
theorem KG.nat {k : Int} (h : KG k) : ∃ n : Nat, n < 127 ∧ k = 2 * (n : Int) + 2 := by
  unfold KG at h
  exact ⟨((k - 2) / 2).toNat, by omega, by omega⟩
theorem u89 {k l : Int} (hk : KG k) (hl : KG l) : pB k l = 0 ↔ ∀ q, 1 ≤ q → q ≤ 7 → n6 k q = true → n6 l q = true := by
  obtain ⟨n, hn, rfl⟩ := hk.nat
  obtain ⟨m, hm, rfl⟩ := hl.nat
  have h := List.all_eq_true.1 (List.all_eq_true.1 v28 n (List.mem_range.2 hn)) m (List.mem_range.2 hm)
  have h := (beq_iff_eq).1 h
  constructor
  · intro h1 q hq1 hq2 h2
    rw [decide_eq_true h1] at h
    obtain ⟨r, rfl⟩ : ∃ r, q = r + 1 := ⟨q - 1, by omega⟩
    have h3 := List.all_eq_true.1 h.symm r (List.mem_range.2 (by omega))
    rw [k79 (by omega)] at h2 ⊢
    rw [h2] at h3
    simpa using h3
  · intro h1
    have h2 : ((List.range 7).all fun q => !(kbC n q) || kbC m q) = true := List.all_eq_true.2 fun q hq => by
      have hq := List.mem_range.1 hq
      cases e : kbC n q with
      | false => rfl
      | true =>
        have h3 := h1 (q + 1) (by omega) (by omega) (by rw [k79 hq]; exact e)
        rw [k79 hq] at h3
        rw [h3]; rfl
    rw [h2] at h
    exact of_decide_eq_true h
theorem k7j {a b : List Int} {n m : Nat} (ha : a.length = n * 2) (hb : b.length = m * 2) (va : gK a n = true) (vb : gK b m = true) : x4 a b = true ↔ ∀ x, fE a x = true → fE b x = true := by
  constructor
  · intro h x hx
    obtain ⟨p, hp, h1⟩ := bD.1 hx
    obtain ⟨q, hq, h2⟩ := List.any_eq_true.1 (List.all_eq_true.1 h p hp)
    have h2 := of_decide_eq_true h2
    exact bD.2 ⟨q, hq, by omega, by omega⟩
  · intro h
    exact u77 ((aL ha).1 va).2 ((aL hb).1 vb).2 fun x hx => bD.1 (h x (bD.2 hx))
theorem u63 {a b : List (List Int)} : sgB a b = false ↔ ∀ m ∈ a, m ∈ b := by
  unfold sgB
  rw [decide_eq_false_iff_not]
  constructor
  · intro h m hm
    by_cases e : m ∈ b
    · exact e
    · exact absurd ⟨m, hm, e⟩ h
  · rintro h ⟨m, hm, e⟩
    exact e (h m hm)
def NI (a b : Bx) : Prop := (∀ q, 1 ≤ q → q ≤ 7 → n6 a.k q = true → n6 b.k q = true) ∧ (∀ x, fE a.r x = true → fE b.r x = true) ∧ (∀ m ∈ a.m, m ∈ b.m) ∧ (∀ x, fE a.s x = true → fE b.s x = true)
theorem NI.refl (a : Bx) : NI a a := ⟨fun _ _ _ h => h, fun _ h => h, fun _ h => h, fun _ h => h⟩
theorem NI.trans {a b c : Bx} (h : NI a b) (h2 : NI b c) : NI a c := ⟨fun q h3 h4 h5 => h2.1 q h3 h4 (h.1 q h3 h4 h5), fun x h3 => h2.2.1 x (h.2.1 x h3), fun m h3 => h2.2.2.1 m (h.2.2.1 m h3), fun x h3 => h2.2.2.2 x (h.2.2.2 x h3)⟩
theorem BxV.sets {b : Bx} (h : BxV b) : (gK b.r b.rn = true ∧ kC b.r b.rn = b.r ∧ 1 ≤ b.rn) ∧ (gK b.s b.sn = true ∧ kC b.s b.sn = b.s ∧ 1 ≤ b.sn) := by
  obtain ⟨_, p2, _, p4⟩ := bQ h.2.2
  obtain ⟨r1, r2, _, r4⟩ := fI p2
  obtain ⟨s1, s2, _, s4⟩ := fI p4
  exact ⟨⟨r1, r2, r4⟩, s1, s2, s4⟩
theorem k6n {a b : Bx} (ha : BxV a) (hb : BxV b) : o4 a.k a.r a.rn a.m a.s a.sn b.k b.r b.rn b.m b.s b.sn = true ↔ NI a b := by
  obtain ⟨⟨a1, a2, _⟩, a3, a4, _⟩ := ha.sets
  obtain ⟨⟨b1, b2, _⟩, b3, b4, _⟩ := hb.sets
  unfold o4 NI
  rw [a2, a4, b2, b4, Bool.and_eq_true, Bool.and_eq_true, Bool.and_eq_true, decide_eq_true_iff, u89 ha.2.1 hb.2.1, k7j ha.1.1 hb.1.1 a1 b1, k7j ha.1.2.1 hb.1.2.1 a3 b3, Bool.not_eq_true', u63]
def HC (b : Bx) (c : Co) : Prop := (1 ≤ c.k ∧ c.k ≤ 7 ∧ n6 b.k c.k.toNat = true) ∧ fE b.r c.r = true ∧ c.m ∈ b.m ∧ fE b.s c.s = true
theorem k7l {b : Bx} (h : BxV b) {c : Co} : gF b.k b.r b.rn b.m b.s b.sn c.k c.r c.m c.s = true ↔ HC b c := by
  obtain ⟨⟨_, a2, _⟩, _, a4, _⟩ := h.sets
  unfold gF HC kjB iK
  rw [a2, a4, Bool.and_eq_true, Bool.and_eq_true, Bool.and_eq_true, Bool.and_eq_true, decide_eq_true_iff, decide_eq_true_iff]
  exact ⟨fun ⟨⟨a, b⟩, d⟩ => ⟨⟨a.1, a.2, b⟩, d⟩, fun ⟨⟨a, b, d⟩, f⟩ => ⟨⟨⟨a, b⟩, d⟩, f⟩⟩
theorem HC.mono {a b : Bx} (h : NI a b) {c : Co} (hc : HC a c) : HC b c := ⟨⟨hc.1.1, hc.1.2.1, h.1 _ (by have := hc.1.1; omega) (by have := hc.1.2.1; omega) hc.1.2.2⟩, h.2.1 _ hc.2.1, h.2.2.1 _ hc.2.2.1, h.2.2.2 _ hc.2.2.2⟩
def LCo (xs : List Bx) (c : Co) : Prop := ∃ b ∈ xs, HC b c
theorem LCo.app {xs ys : List Bx} {c : Co} : LCo (xs ++ ys) c ↔ LCo xs c ∨ LCo ys c := by
  constructor
  · rintro ⟨b, hb, h⟩; exact (List.mem_append.1 hb).imp (fun h1 => ⟨b, h1, h⟩) fun h1 => ⟨b, h1, h⟩
  · rintro (⟨b, hb, h⟩ | ⟨b, hb, h⟩)
    · exact ⟨b, List.mem_append_left _ hb, h⟩
    · exact ⟨b, List.mem_append_right _ hb, h⟩
/-! boxes that are reduced away -/
def GO (xs : List Bx) (i j : Nat) : Prop := j ≠ i ∧ NI (vK xs i) (vK xs j) ∧ (j < i ∨ ¬ NI (vK xs j) (vK xs i))
theorem k15 {xs : List Bx} (h : BsV xs) {i j : Nat} (hi : i < xs.length) (hj : j < xs.length) : oO xs i j = true ↔ GO xs i j := by
  have e1 := k6n (h _ (yS hi)) (h _ (yS hj))
  have e2 := k6n (h _ (yS hj)) (h _ (yS hi))
  have e1 : niE xs i xs j = true ↔ NI (vK xs i) (vK xs j) := e1
  have e2 : niE xs j xs i = true ↔ NI (vK xs j) (vK xs i) := e2
  unfold oO GO
  rw [Bool.and_eq_true, Bool.and_eq_true, Bool.or_eq_true, decide_eq_true_iff, decide_eq_true_iff, e1, Bool.not_eq_true', ← Bool.not_eq_true, e2]
theorem GO.trans {xs : List Bx} {i j k : Nat} (h : GO xs i j) (h2 : GO xs j k) : GO xs i k := by
  obtain ⟨a1, a2, a3⟩ := h
  obtain ⟨b1, b2, b3⟩ := h2
  have key : NI (vK xs k) (vK xs i) → k < i := fun h => by
    have c1 : k < j := b3.elim id fun h9 => absurd (h.trans a2) h9
    have c2 : j < i := a3.elim id fun h9 => absurd (b2.trans h) h9
    omega
  refine ⟨fun e => ?_, a2.trans b2, ?_⟩
  · have := key (by rw [e]; exact NI.refl _); omega
  · by_cases e : NI (vK xs k) (vK xs i)
    · exact .inl (key e)
    · exact .inr e
theorem k9l {p q : Nat → Bool} (h : ∀ x, p x = true → q x = true) : ∀ l : List Nat, (∃ x ∈ l, q x = true ∧ p x = false) → l.countP p < l.countP q
  | [], ⟨x, hx, _⟩ => by cases hx
  | a :: l, ⟨x, hx, h1, h2⟩ => by
    have hm : l.countP p ≤ l.countP q := List.countP_mono_left fun x _ => h x
    rw [List.countP_cons, List.countP_cons]
    rcases List.mem_cons.1 hx with rfl | hx
    · rw [h1, h2]; simp only [if_true]; rw [if_neg (by decide)]; omega
    · have := k9l h l ⟨x, hx, h1, h2⟩
      cases e : p a with
      | true => rw [h a e]; omega
      | false => rw [if_neg (by decide)]; split <;> omega
theorem k7n {xs : List Bx} (h : BsV xs) : ∀ (N : Nat) (i : Nat), i < xs.length → (List.range xs.length).countP (fun j => oO xs i j) ≤ N → ∃ j, j < xs.length ∧ goB xs j = false ∧ NI (vK xs i) (vK xs j)
  | N, i, hi, hc => by
    cases e : goB xs i with
    | false => exact ⟨i, hi, e, NI.refl _⟩
    | true =>
      obtain ⟨j, hj, h1⟩ := of_decide_eq_true e
      have g1 := (k15 h hi hj).1 h1
      have hlt : (List.range xs.length).countP (fun k => oO xs j k && decide (k < xs.length)) < (List.range xs.length).countP (fun k => oO xs i k && decide (k < xs.length)) := by
        refine k9l (fun k hk => ?_) _ ⟨j, List.mem_range.2 hj, ?_, ?_⟩
        · rw [Bool.and_eq_true, decide_eq_true_iff] at hk ⊢
          exact ⟨(k15 h hi hk.2).2 (g1.trans ((k15 h hj hk.2).1 hk.1)), hk.2⟩
        · rw [h1, decide_eq_true hj]; rfl
        · rw [k7o rfl]; rfl
      have ec : ∀ a, (List.range xs.length).countP (fun k => oO xs a k && decide (k < xs.length)) = (List.range xs.length).countP (fun k => oO xs a k) := fun a => List.countP_congr fun k hk => by
        rw [decide_eq_true (List.mem_range.1 hk), Bool.and_true]
      rw [ec, ec] at hlt
      cases N with
      | zero => omega
      | succ N =>
        obtain ⟨t, t1, t2, t3⟩ := k7n h N j hj zo
        exact ⟨t, t1, t2, g1.2.1.trans t3⟩
theorem lC {xs : List Bx} {b : Bx} : ∀ i, b ∈ pK xs i ↔ ∃ j, j < i ∧ goB xs j = false ∧ b = vK xs j
  | 0 => ⟨fun h => (by cases h), fun ⟨j, hj, _⟩ => absurd hj (Nat.not_lt_zero j)⟩
  | i + 1 => by
    have ih := lC (xs := xs) (b := b) i
    rw [pK]
    cases e : goB xs i with
    | true =>
      rw [if_pos rfl, ih]
      constructor
      · rintro ⟨j, hj, h⟩; exact ⟨j, by omega, h⟩
      · rintro ⟨j, hj, h1, h2⟩
        refine ⟨j, ?_, h1, h2⟩
        by_cases e2 : j = i
        · rw [e2, e] at h1; cases h1
        · omega
    | false =>
      rw [if_neg (by decide), List.mem_append, ih, List.mem_singleton]
      constructor
      · rintro (⟨j, hj, h⟩ | h)
        · exact ⟨j, by omega, h⟩
        · exact ⟨i, by omega, e, h⟩
      · rintro ⟨j, hj, h1, h2⟩
        by_cases e2 : j = i
        · subst e2; exact .inr h2
        · exact .inl ⟨j, by omega, h1, h2⟩
theorem u9s {xs : List Bx} (h : BsV xs) : BsV (pK xs xs.length) := fun b hb => by
  obtain ⟨j, hj, _, rfl⟩ := (lC _).1 hb
  exact h _ (yS hj)
theorem u9r {xs : List Bx} (h : BsV xs) (c : Co) : LCo (pK xs xs.length) c ↔ LCo xs c := by
  constructor
  · rintro ⟨b, hb, hc⟩
    obtain ⟨j, hj, _, rfl⟩ := (lC _).1 hb
    exact ⟨_, yS hj, hc⟩
  · rintro ⟨b, hb, hc⟩
    obtain ⟨i, hi, rfl⟩ := List.mem_iff_getElem.1 hb
    have e : vK xs i = xs[i] := by unfold vK; rw [List.getD_eq_getElem?_getD, List.getElem?_eq_getElem hi]; rfl
    obtain ⟨j, hj, h1, h2⟩ := k7n h _ i hi (Nat.le_refl _)
    exact ⟨vK xs j, (lC _).2 ⟨j, hj, h1, rfl⟩, HC.mono (e ▸ h2) hc⟩
theorem k5w {xs : List Bx} (h : BsV xs) (hn : xs.length ≤ 64) : bG xs = pK xs xs.length ∧ jR xs = 0 ∧ BsV (bG xs) := by
  obtain ⟨h1, h2⟩ := k5t (h.vb hn)
  exact ⟨h1, h2, by rw [h1]; exact u9s h⟩
theorem k5u {xs : List Bx} (h : BsV xs) (hn : xs.length ≤ 64) (c : Co) : LCo (bG xs) c ↔ LCo xs c := by
  rw [(k5w h hn).1]; exact u9r h c
end Go.Proofs.YtbicifcgghmhaaaGreat
namespace Go.Proofs.YtbicifcgghmhaaaGreat
open Go.ChangeShapes Go.WideShapes Go.ChangeAt Go.RowKit
set_option linter.unusedVariables false
set_option linter.unusedSimpArgs false
/-! chapter 10: what is in two boxes, in two lists -/
theorem u5q {n : Nat} (h : n < 256) : IntKind.i64.wrap ((n : Nat) : Int) = (n : Int) := by
  unfold IntKind.wrap; simp [IntKind.bits, IntKind.signed]; omega
theorem k9r {n : Nat} (h : n < 256) : (BitVec.ofInt 64 (n : Int)).toNat = n := by
  rw [BitVec.ofInt_natCast, BitVec.toNat_ofNat]; exact Nat.mod_eq_of_lt (by omega)
theorem k1m {n m : Nat} (hn : n < 256) (hm : m < 256) : qV (n : Int) (m : Int) = ((n &&& m : Nat) : Int) := by
  have h1 : n &&& m ≤ n := Nat.and_le_left
  show IntKind.i64.wrap (((BitVec.ofInt 64 (n : Int) &&& BitVec.ofInt 64 (m : Int)).toNat : Nat) : Int) = _
  rw [BitVec.toNat_and, k9r hn, k9r hm]
  exact u5q (by omega)
theorem u6j {n q : Nat} (hn : n < 256) : fB ((n : Int) / ((2 ^ q : Nat) : Int)) = 1 ↔ n.testBit q = true := by
  have h1 : n / 2 ^ q ≤ n := Nat.div_le_self _ _
  have h2 : fB ((n : Int) / ((2 ^ q : Nat) : Int)) = ((n / 2 ^ q % 2 : Nat) : Int) := by
    rw [← Int.natCast_ediv]
    show qV ((n / 2 ^ q : Nat) : Int) ((1 : Nat) : Int) = _
    rw [k1m (by omega) (by decide), Nat.and_one_is_mod]
  rw [h2, Nat.testBit_eq_decide_div_mod_eq, decide_eq_true_iff]
  omega
theorem k10 {n q : Nat} (hn : n < 256) (h1 : 1 ≤ q) (h2 : q ≤ 7) : n6 (n : Int) q = true ↔ n.testBit q = true := by
  unfold n6
  rw [decide_eq_true_iff, u6j hn]
  exact ⟨fun e => e.2.2, fun e => ⟨h1, h2, e⟩⟩
theorem KG.nat2 {k : Int} (h : KG k) : ∃ n : Nat, n < 256 ∧ n % 2 = 0 ∧ n ≤ 254 ∧ k = (n : Int) := by
  unfold KG at h
  exact ⟨k.toNat, by omega, by omega, by omega, by omega⟩
theorem u8c {k l : Int} (hk : KG k) (hl : KG l) : (qV k l = 0 ∨ KG (qV k l)) ∧ ∀ q, 1 ≤ q → q ≤ 7 → (n6 (qV k l) q = true ↔ n6 k q = true ∧ n6 l q = true) := by
  obtain ⟨n, hn, en, ln, rfl⟩ := hk.nat2
  obtain ⟨m, hm, em, lm, rfl⟩ := hl.nat2
  have h1 : n &&& m ≤ n := Nat.and_le_left
  rw [k1m hn hm]
  constructor
  · have h2 : (n &&& m).testBit 0 = false := by
      rw [Nat.testBit_and, Nat.testBit_zero, decide_eq_false (by omega)]; rfl
    rw [Nat.testBit_zero, decide_eq_false_iff_not] at h2
    unfold KG; omega
  · intro q q1 q2
    rw [k10 (by omega) q1 q2, k10 hn q1 q2, k10 hm q1 q2, Nat.testBit_and, Bool.and_eq_true]
theorem k9n {a b : List (List Int)} {m : List Int} : ∀ i, i ≤ a.length → (m ∈ u9 a b i ↔ m ∈ b ∧ ∃ j, j < i ∧ List.getD a j [] = m)
  | 0, _ => ⟨fun h => (by cases h), fun ⟨_, j, hj, _⟩ => absurd hj (Nat.not_lt_zero j)⟩
  | i + 1, hi => by
    have ih := k9n (a := a) (b := b) (m := m) i (by omega)
    rw [u9]
    cases e : iK b (List.getD a i []) with
    | true =>
      rw [if_pos rfl, List.mem_append, ih, List.mem_singleton]
      constructor
      · rintro (⟨h1, j, hj, h2⟩ | h)
        · exact ⟨h1, j, by omega, h2⟩
        · exact ⟨by rw [h]; exact of_decide_eq_true e, i, by omega, h.symm⟩
      · rintro ⟨h1, j, hj, h2⟩
        by_cases e2 : j = i
        · subst e2; exact .inr h2.symm
        · exact .inl ⟨h1, j, by omega, h2⟩
    | false =>
      rw [if_neg (by decide), ih]
      constructor
      · rintro ⟨h1, j, hj, h2⟩; exact ⟨h1, j, by omega, h2⟩
      · rintro ⟨h1, j, hj, h2⟩
        by_cases e2 : j = i
        · subst e2; rw [h2] at e; exact absurd h1 (of_decide_eq_false e)
        · exact ⟨h1, j, by omega, h2⟩
theorem u81 {a b : List (List Int)} {m : List Int} : m ∈ u9 a b a.length ↔ m ∈ a ∧ m ∈ b := by
  rw [k9n a.length (Nat.le_refl _)]
  constructor
  · rintro ⟨h1, j, hj, rfl⟩
    refine ⟨?_, h1⟩
    rw [List.getD_eq_getElem?_getD, List.getElem?_eq_getElem hj]; exact List.getElem_mem hj
  · rintro ⟨h1, h2⟩
    obtain ⟨j, hj, rfl⟩ := List.mem_iff_getElem.1 h1
    exact ⟨h2, j, hj, by rw [List.getD_eq_getElem?_getD, List.getElem?_eq_getElem hj]; rfl⟩
theorem u5t {ms : List (List Int)} (h : nC ms = true) : MsV ms := by
  obtain ⟨h1, h2, h3⟩ := of_decide_eq_true h
  have e : ∀ i (hi : i < ms.length), List.getD ms i [] = ms[i] := fun i hi => by rw [List.getD_eq_getElem?_getD, List.getElem?_eq_getElem hi]; rfl
  refine ⟨fun m hm => ?_, List.pairwise_iff_getElem.2 fun i j hi hj hij => ?_⟩
  · obtain ⟨i, hi, rfl⟩ := List.mem_iff_getElem.1 hm
    have h4 := h3 i hi
    unfold vmE at h4
    rw [Bool.and_eq_true, e i hi] at h4; exact h4.1
  · have h4 := h3 j hj
    unfold vmE at h4
    rw [Bool.and_eq_true, e j hj, Bool.not_eq_true'] at h4
    intro e2
    refine of_decide_eq_false h4.2 ?_
    rw [← e2]
    exact List.mem_iff_getElem.2 ⟨i, by rw [List.length_take]; omega, by rw [List.getElem_take]⟩
theorem k9m (a b : List (List Int)) : ∀ i, i ≤ a.length → (u9 a b i).Sublist (List.take i a)
  | 0, _ => List.nil_sublist _
  | i + 1, hi => by
    have ih := k9m a b i (by omega)
    have e : List.take (i + 1) a = List.take i a ++ [List.getD a i []] := by
      rw [List.take_succ_eq_append_getElem (by omega), List.getD_eq_getElem?_getD, List.getElem?_eq_getElem (by omega)]; rfl
    rw [u9, e]; split
    · exact List.Sublist.append ih (List.Sublist.refl _)
    · exact ih.trans (List.sublist_append_left _ _)
theorem v47 {a b : List (List Int)} (h : nC a = true) (h1 : 1 ≤ (u9 a b a.length).length) : nC (u9 a b a.length) = true := by
  have hs := k9m a b a.length (Nat.le_refl _)
  rw [List.take_length] at hs
  have hm := u5t h
  have hl := (of_decide_eq_true h).2.1
  exact u3g ⟨fun m hm2 => hm.1 m (hs.mem hm2), hm.2.sublist hs⟩ h1 (Nat.le_trans hs.length_le hl)
theorem u5s {l : List Int} {n : Nat} {lo hi : Int} (hl : l.length = n * 2) (h : fA l n lo hi = true) {x : Int} (hx : fE l x = true) : lo ≤ x ∧ x ≤ hi := by
  unfold fA at h
  rw [Bool.and_eq_true, decide_eq_true_iff] at h
  obtain ⟨h1, h2, h3, h4⟩ := h
  have hok := ((aL hl).1 h1).2
  obtain ⟨p, hp, h5⟩ := bD.1 hx
  obtain ⟨j, hj, rfl⟩ := (yR hl).1 hp
  have mono : ∀ a b, a ≤ b → b < n → List.getD l (a * 2) 0 ≤ List.getD l (b * 2) 0 ∧ List.getD l (a * 2 + 1) 0 ≤ List.getD l (b * 2 + 1) 0 := fun a b hab hb => by
    induction b with
    | zero => obtain rfl : a = 0 := by omega
              exact ⟨Int.le_refl _, Int.le_refl _⟩
    | succ b ih =>
      by_cases e : a = b + 1
      · subst e; exact ⟨Int.le_refl _, Int.le_refl _⟩
      · have i1 := ih (by omega) (by omega)
        have g := iX _ hok b _ _ (by rw [List.getElem?_eq_getElem (by rw [uJ hl]; omega), sJ hl (by omega)]) (by rw [List.getElem?_eq_getElem (by rw [uJ hl]; omega), sJ hl (by omega)])
        have v1 := dE hok _ ((yR hl).2 ⟨b, by omega, rfl⟩)
        have v2 := dE hok _ ((yR hl).2 ⟨b + 1, by omega, rfl⟩)
        unfold dZ at v1 v2
        simp only at g v1 v2
        omega
  have m1 := mono 0 j (Nat.zero_le _) hj
  have m2 := mono j (n - 1) (by omega) (by omega)
  simp only [Nat.zero_mul, Nat.zero_add] at m1
  simp only at h5
  omega
theorem u8z {l : List Int} {n : Nat} {lo hi : Int} (hl : l.length = n * 2) (h1 : gK l n = true) (h2 : 1 ≤ n) (h : ∀ x, fE l x = true → lo ≤ x ∧ x ≤ hi) : fA l n lo hi = true := by
  have hok := ((aL hl).1 h1).2
  have e : ∀ j, j < n → dZ (List.getD l (j * 2) 0, List.getD l (j * 2 + 1) 0) := fun j hj => dE hok _ ((yR hl).2 ⟨j, hj, rfl⟩)
  have e0 := e 0 (by omega); have e1 := e (n - 1) (by omega)
  unfold dZ at e0 e1
  simp only [Nat.zero_mul, Nat.zero_add] at e0 e1
  have a1 := h (List.getD l 0 0) (k7k hl (k := 0) (by omega) (by simp only [Nat.zero_mul, Nat.zero_add]; omega))
  have a2 := h (List.getD l ((n - 1) * 2 + 1) 0) (k7k hl (k := n - 1) (by omega) (by omega))
  exact u5r h1 ⟨h2, a1.1, a2.2⟩
theorem u73 {a b : List Int} {n m : Nat} (ha : a.length = n * 2) (hb : b.length = m * 2) : gK (uR (kC a n) (kC b m)) (qT (kC a n) (kC b m)) = true := (aL (yI _ _)).2 ⟨aJ _ _, u49 ha hb⟩
theorem u4a {a b : List Int} {n m : Nat} (ha : a.length = n * 2) (hb : b.length = m * 2) : (aX (qY (kC a n)) (qY (kC b m))).length ≤ n + m := by
  have := k12 _ (qY (kC a n)) (qY (kC b m)) (Nat.le_refl _) (uS ha) (uS hb)
  rw [uJ (qD ha), uJ (qD hb)] at this
  have h1 := (lU (l := a) (n := n)).2
  have h2 := (lU (l := b) (n := m)).2
  omega
def BxF (b : Bx) : Prop := b.rn ≤ 5 ∧ b.sn ≤ 5
def BsF (xs : List Bx) : Prop := ∀ b ∈ xs, BxF b
def crX (a b : Bx) : Bx := kF (qV a.k b.k) (uR (kC a.r a.rn) (kC b.r b.rn)) (qT (kC a.r a.rn) (kC b.r b.rn)) (u9 a.m b.m a.m.length) (uR (kC a.s a.sn) (kC b.s b.sn)) (qT (kC a.s a.sn) (kC b.s b.sn))
def okX (b : Bx) : Bool := gO b.k b.r b.rn b.m b.s b.sn
theorem v1e {a : Bx} (h : BxW a) (b : Bx) : BxW (crX a b) := by
  refine ⟨yI _ _, yI _ _, Nat.le_trans (aJ _ _) (by decide), Nat.le_trans (aJ _ _) (by decide), ?_, rC h.2.2.2.2.2 _ _⟩
  have h1 := cX a.m b.m a.m.length
  have h2 := h.2.2.2.2.1
  show List.length (u9 _ _ _) ≤ _
  omega
theorem v1f {a b : Bx} (ha : BxV a) (hb : BxV b) (h : okX (crX a b) = true) : BxV (crX a b) := by
  refine ⟨v1e ha.1 b, ?_, h⟩
  exact (u8c ha.2.1 hb.2.1).1.elim (fun e => absurd e (bQ h).1.1) id
theorem k70 {a b : List Int} {n m : Nat} (ha : a.length = n * 2) (hb : b.length = m * 2) (h : n + m < 64) : mJ a n b m = true := by
  refine u6u ?_
  have := u4a ha hb
  unfold qT; rw [List.length_take]; omega
/-! made boxes have few spans -/
theorem k6u {l : List Int} {n : Nat} (hl : l.length = n * 2) : vP l n ≤ n := by
  cases e : rgB l n with
  | false => rw [(sY e).2.2]; exact Nat.zero_le _
  | true =>
    have h1 := k7c hl (lB.1 e)
    by_cases h2 : mL l ≤ 64
    · rw [(sX e h2).2.2]; exact h1
    · rw [(k6t e (by omega)).2.2]; exact Nat.zero_le _
theorem v1w {l : List Int} (h : Byt l) : BxF (boX l) := by
  have b1 : Byt (bo1 l) := qR _ (qR _ h)
  have b2 : Byt (bo2 l) := aB b1 _
  have b3 : Byt (bo3 l) := aM b2
  have n1 := uN (uP (bo2 l) 5) 5 (vD b2 5)
  have n2 := uN (uP (bo3 l) 4) 4 (vD b3 4)
  obtain ⟨_, r2, r3⟩ := k1z u9l (by decide) (bo2 l) (by show kA _ 5 < 5; omega)
  obtain ⟨_, s2, s3⟩ := k1z u9a (by decide) (bo3 l) (by show kA _ 4 < 4; omega)
  have e1 := k6u r3.1
  have e2 := k6u s3.1
  exact ⟨Nat.le_trans e1 r2, Nat.le_trans e2 (Nat.le_trans s2 (by decide))⟩
theorem BsF.nil : BsF [] := fun b hb => by cases hb
theorem BsF.app {a b : List Bx} (h : BsF a) (h2 : BsF b) : BsF (a ++ b) := fun m hm => (List.mem_append.1 hm).elim (h m) (h2 m)
theorem BsF.one {b : Bx} (h : BxF b) : BsF [b] := fun m hm => by rw [List.mem_singleton.1 hm]; exact h
theorem BsF.box {xs : List Bx} (h : BsF xs) {i : Nat} (hi : i < xs.length) : BxF (kF (kU xs i) (qG xs i) (qA xs i) (kX xs i) (qF xs i) (k9 xs i)) := h _ (yS hi)
theorem u54 {l : List Int} (h : Byt l) : ∀ i, BsF (bbL l i)
  | 0 => BsF.nil
  | i + 1 => (u54 h i).app (BsF.one (v1w (gG h i)))
end Go.Proofs.YtbicifcgghmhaaaGreat
