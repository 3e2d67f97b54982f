/- Merged texts. -/
import Derived.Test.YtcfmjpnffembpaaGreatZW10
import Derived.Test.YtcfmjpnffembpaaGreatZL10R
namespace Go.Proofs.YtcfmjpnffembpaaGreat
open Go.ChangeShapes Go.WideShapes Go.ChangeAt Go.RowKit
set_option linter.unusedVariables false
set_option linter.unusedSimpArgs false
/-! chapter 10: boxes by what they hold -/
def kbC (n q : Nat) : Bool := decide (dE ((2 * (n : Int) + 2) / ((2 ^ (q + 1) : Nat) : Int)) = 1)
def anC : Bool := (List.range 127).all fun n => (List.range 127).all fun m => (decide (dM (2 * (n : Int) + 2) (2 * (m : Int) + 2) = 0)) == ((List.range 7).all fun q => !(kbC n q) || kbC m q)
set_option maxRecDepth 100000 in
theorem v18 : anC = true := by kernel_rfl
theorem k82 {n q : Nat} (hq : q < 7) : jH (2 * (n : Int) + 2) (q + 1) = kbC n q := by
  unfold jH kbC
  by_cases h : dE ((2 * (n : Int) + 2) / ((2 ^ (q + 1) : Nat) : Int)) = 1
  · rw [decide_eq_true h, decide_eq_true ⟨by omega, by omega, h⟩]
  · rw [decide_eq_false h, decide_eq_false fun e => h e.2.2]
theorem KG.nat {k : Int} (h : KG k) : ∃ n : Nat, n < 127 ∧ k = 2 * (n : Int) + 2 := by
  unfold KG at h
  exact ⟨((k - 2) / 2).toNat, by omega, by omega⟩
theorem u7v {k l : Int} (hk : KG k) (hl : KG l) : dM k l = 0 ↔ ∀ q, 1 ≤ q → q ≤ 7 → jH k q = true → jH l q = true := by
  obtain ⟨n, hn, rfl⟩ := hk.nat
  obtain ⟨m, hm, rfl⟩ := hl.nat
  have h := List.all_eq_true.1 (List.all_eq_true.1 v18 n (List.mem_range.2 hn)) m (List.mem_range.2 hm)
  have h := (beq_iff_eq).1 h
  constructor
  · intro h1 q hq1 hq2 h2
    rw [decide_eq_true h1] at h
    obtain ⟨r, rfl⟩ : ∃ r, q = r + 1 := ⟨q - 1, by omega⟩
    have h3 := List.all_eq_true.1 h.symm r (List.mem_range.2 (by omega))
    rw [k82 (by omega)] at h2 ⊢
    rw [h2] at h3
    simpa using h3
  · intro h1
    have h2 : ((List.range 7).all fun q => !(kbC n q) || kbC m q) = true := List.all_eq_true.2 fun q hq => by
      have hq := List.mem_range.1 hq
      cases e : kbC n q with
      | false => rfl
      | true =>
        have h3 := h1 (q + 1) (by omega) (by omega) (by rw [k82 hq]; exact e)
        rw [k82 hq] at h3
        rw [h3]; rfl
    rw [h2] at h
    exact of_decide_eq_true h
theorem k8c {a b : List Int} {n m : Nat} (ha : a.length = n * 2) (hb : b.length = m * 2) (va : eX a n = true) (vb : eX b m = true) : inB a b = true ↔ ∀ x, dK a x = true → dK b x = true := by
  constructor
  · intro h x hx
    obtain ⟨p, hp, h1⟩ := aV.1 hx
    obtain ⟨q, hq, h2⟩ := List.any_eq_true.1 (List.all_eq_true.1 h p hp)
    have h2 := of_decide_eq_true h2
    exact aV.2 ⟨q, hq, by omega, by omega⟩
  · intro h
    exact u6u ((cI ha).1 va).2 ((cI hb).1 vb).2 fun x hx => aV.1 (h x (aV.2 hx))
theorem u5t {a b : List (List Int)} : sgB a b = false ↔ ∀ m ∈ a, m ∈ b := by
  unfold sgB
  rw [decide_eq_false_iff_not]
  constructor
  · intro h m hm
    by_cases e : m ∈ b
    · exact e
    · exact absurd ⟨m, hm, e⟩ h
  · rintro h ⟨m, hm, e⟩
    exact e (h m hm)
def NI (a b : Bx) : Prop := (∀ q, 1 ≤ q → q ≤ 7 → jH a.k q = true → jH b.k q = true) ∧ (∀ x, dK a.r x = true → dK b.r x = true) ∧ (∀ m ∈ a.m, m ∈ b.m) ∧ (∀ x, dK a.s x = true → dK b.s x = true)
theorem NI.refl (a : Bx) : NI a a := ⟨fun _ _ _ h => h, fun _ h => h, fun _ h => h, fun _ h => h⟩
theorem NI.trans {a b c : Bx} (h : NI a b) (h2 : NI b c) : NI a c := ⟨fun q h3 h4 h5 => h2.1 q h3 h4 (h.1 q h3 h4 h5), fun x h3 => h2.2.1 x (h.2.1 x h3), fun m h3 => h2.2.2.1 m (h.2.2.1 m h3), fun x h3 => h2.2.2.2 x (h.2.2.2 x h3)⟩
theorem BxV.sets {b : Bx} (h : BxV b) : (eX b.r b.rn = true ∧ kC b.r b.rn = b.r ∧ 1 ≤ b.rn) ∧ (eX b.s b.sn = true ∧ kC b.s b.sn = b.s ∧ 1 ≤ b.sn) := by
  obtain ⟨_, p2, _, p4⟩ := b6 h.2.2
  obtain ⟨r1, r2, _, r4⟩ := rZ p2
  obtain ⟨s1, s2, _, s4⟩ := rZ p4
  exact ⟨⟨r1, r2, r4⟩, s1, s2, s4⟩
theorem k7i {a b : Bx} (ha : BxV a) (hb : BxV b) : rK a.k a.r a.rn a.m a.s a.sn b.k b.r b.rn b.m b.s b.sn = true ↔ NI a b := by
  obtain ⟨⟨a1, a2, _⟩, a3, a4, _⟩ := ha.sets
  obtain ⟨⟨b1, b2, _⟩, b3, b4, _⟩ := hb.sets
  unfold rK NI
  rw [a2, a4, b2, b4, Bool.and_eq_true, Bool.and_eq_true, Bool.and_eq_true, decide_eq_true_iff, u7v ha.2.1 hb.2.1, k8c ha.1.1 hb.1.1 a1 b1, k8c ha.1.2.1 hb.1.2.1 a3 b3, Bool.not_eq_true', u5t]
def HC (b : Bx) (c : Co) : Prop := (1 ≤ c.k ∧ c.k ≤ 7 ∧ jH b.k c.k.toNat = true) ∧ dK b.r c.r = true ∧ c.m ∈ b.m ∧ dK b.s c.s = true
theorem k8e {b : Bx} (h : BxV b) {c : Co} : iA b.k b.r b.rn b.m b.s b.sn c.k c.r c.m c.s = true ↔ HC b c := by
  obtain ⟨⟨_, a2, _⟩, _, a4, _⟩ := h.sets
  unfold iA HC kjB gI
  rw [a2, a4, Bool.and_eq_true, Bool.and_eq_true, Bool.and_eq_true, Bool.and_eq_true, decide_eq_true_iff, decide_eq_true_iff]
  exact ⟨fun ⟨⟨a, b⟩, d⟩ => ⟨⟨a.1, a.2, b⟩, d⟩, fun ⟨⟨a, b, d⟩, f⟩ => ⟨⟨⟨a, b⟩, d⟩, f⟩⟩
theorem HC.mono {a b : Bx} (h : NI a b) {c : Co} (hc : HC a c) : HC b c := ⟨⟨hc.1.1, hc.1.2.1, h.1 _ (by have := hc.1.1; omega) (by have := hc.1.2.1; omega) hc.1.2.2⟩, h.2.1 _ hc.2.1, h.2.2.1 _ hc.2.2.1, h.2.2.2 _ hc.2.2.2⟩
def LCo (xs : List Bx) (c : Co) : Prop := ∃ b ∈ xs, HC b c
theorem LCo.app {xs ys : List Bx} {c : Co} : LCo (xs ++ ys) c ↔ LCo xs c ∨ LCo ys c := by
  constructor
  · rintro ⟨b, hb, h⟩; exact (List.mem_append.1 hb).imp (fun h1 => ⟨b, h1, h⟩) fun h1 => ⟨b, h1, h⟩
  · rintro (⟨b, hb, h⟩ | ⟨b, hb, h⟩)
    · exact ⟨b, List.mem_append_left _ hb, h⟩
    · exact ⟨b, List.mem_append_right _ hb, h⟩
/-! boxes that are reduced away -/
def GO (xs : List Bx) (i j : Nat) : Prop := j ≠ i ∧ NI (aB xs i) (aB xs j) ∧ (j < i ∨ ¬ NI (aB xs j) (aB xs i))
theorem k2a {xs : List Bx} (h : BsV xs) {i j : Nat} (hi : i < xs.length) (hj : j < xs.length) : rC xs i j = true ↔ GO xs i j := by
  have e1 := k7i (h _ (qF hi)) (h _ (qF hj))
  have e2 := k7i (h _ (qF hj)) (h _ (qF hi))
  have e1 : niE xs i xs j = true ↔ NI (aB xs i) (aB xs j) := e1
  have e2 : niE xs j xs i = true ↔ NI (aB xs j) (aB xs i) := e2
  unfold rC GO
  rw [Bool.and_eq_true, Bool.and_eq_true, Bool.or_eq_true, decide_eq_true_iff, decide_eq_true_iff, e1, Bool.not_eq_true', ← Bool.not_eq_true, e2]
theorem GO.trans {xs : List Bx} {i j k : Nat} (h : GO xs i j) (h2 : GO xs j k) : GO xs i k := by
  obtain ⟨a1, a2, a3⟩ := h
  obtain ⟨b1, b2, b3⟩ := h2
  have key : NI (aB xs k) (aB xs i) → k < i := fun h => by
    have c1 : k < j := b3.elim id fun h9 => absurd (h.trans a2) h9
    have c2 : j < i := a3.elim id fun h9 => absurd (b2.trans h) h9
    omega
  refine ⟨fun e => ?_, a2.trans b2, ?_⟩
  · have := key (by rw [e]; exact NI.refl _); omega
  · by_cases e : NI (aB xs k) (aB xs i)
    · exact .inl (key e)
    · exact .inr e
theorem u07 {p q : Nat → Bool} (h : ∀ x, p x = true → q x = true) : ∀ l : List Nat, (∃ x ∈ l, q x = true ∧ p x = false) → l.countP p < l.countP q
  | [], ⟨x, hx, _⟩ => by cases hx
  | a :: l, ⟨x, hx, h1, h2⟩ => by
    have hm : l.countP p ≤ l.countP q := List.countP_mono_left fun x _ => h x
    rw [List.countP_cons, List.countP_cons]
    rcases List.mem_cons.1 hx with rfl | hx
    · rw [h1, h2]; simp only [if_true]; rw [if_neg (by decide)]; omega
    · have := u07 h l ⟨x, hx, h1, h2⟩
      cases e : p a with
      | true => rw [h a e]; omega
      | false => rw [if_neg (by decide)]; split <;> omega
theorem k8g {xs : List Bx} (h : BsV xs) : ∀ (N : Nat) (i : Nat), i < xs.length → (List.range xs.length).countP (fun j => rC xs i j) ≤ N → ∃ j, j < xs.length ∧ goB xs j = false ∧ NI (aB xs i) (aB xs j)
  | N, i, hi, hc => by
    cases e : goB xs i with
    | false => exact ⟨i, hi, e, NI.refl _⟩
    | true =>
      obtain ⟨j, hj, h1⟩ := of_decide_eq_true e
      have g1 := (k2a h hi hj).1 h1
      have hlt : (List.range xs.length).countP (fun k => rC xs j k && decide (k < xs.length)) < (List.range xs.length).countP (fun k => rC xs i k && decide (k < xs.length)) := by
        refine u07 (fun k hk => ?_) _ ⟨j, List.mem_range.2 hj, ?_, ?_⟩
        · rw [Bool.and_eq_true, decide_eq_true_iff] at hk ⊢
          exact ⟨(k2a h hi hk.2).2 (g1.trans ((k2a h hj hk.2).1 hk.1)), hk.2⟩
        · rw [h1, decide_eq_true hj]; rfl
        · rw [k57 rfl]; rfl
      have ec : ∀ a, (List.range xs.length).countP (fun k => rC xs a k && decide (k < xs.length)) = (List.range xs.length).countP (fun k => rC xs a k) := fun a => List.countP_congr fun k hk => by
        rw [decide_eq_true (List.mem_range.1 hk), Bool.and_true]
      rw [ec, ec] at hlt
      cases N with
      | zero => omega
      | succ N =>
        obtain ⟨t, t1, t2, t3⟩ := k8g h N j hj zo
        exact ⟨t, t1, t2, g1.2.1.trans t3⟩
theorem tY {xs : List Bx} {b : Bx} : ∀ i, b ∈ x4 xs i ↔ ∃ j, j < i ∧ goB xs j = false ∧ b = aB xs j
  | 0 => ⟨fun h => (by cases h), fun ⟨j, hj, _⟩ => absurd hj (Nat.not_lt_zero j)⟩
  | i + 1 => by
    have ih := tY (xs := xs) (b := b) i
    rw [x4]
    cases e : goB xs i with
    | true =>
      rw [if_pos rfl, ih]
      constructor
      · rintro ⟨j, hj, h⟩; exact ⟨j, by omega, h⟩
      · rintro ⟨j, hj, h1, h2⟩
        refine ⟨j, ?_, h1, h2⟩
        by_cases e2 : j = i
        · rw [e2, e] at h1; cases h1
        · omega
    | false =>
      rw [if_neg (by decide), List.mem_append, ih, List.mem_singleton]
      constructor
      · rintro (⟨j, hj, h⟩ | h)
        · exact ⟨j, by omega, h⟩
        · exact ⟨i, by omega, e, h⟩
      · rintro ⟨j, hj, h1, h2⟩
        by_cases e2 : j = i
        · subst e2; exact .inr h2
        · exact .inl ⟨j, by omega, h1, h2⟩
theorem u90 {xs : List Bx} (h : BsV xs) : BsV (x4 xs xs.length) := fun b hb => by
  obtain ⟨j, hj, _, rfl⟩ := (tY _).1 hb
  exact h _ (qF hj)
theorem u8y {xs : List Bx} (h : BsV xs) (c : Co) : LCo (x4 xs xs.length) c ↔ LCo xs c := by
  constructor
  · rintro ⟨b, hb, hc⟩
    obtain ⟨j, hj, _, rfl⟩ := (tY _).1 hb
    exact ⟨_, qF hj, hc⟩
  · rintro ⟨b, hb, hc⟩
    obtain ⟨i, hi, rfl⟩ := List.mem_iff_getElem.1 hb
    have e : aB xs i = xs[i] := by unfold aB; rw [List.getD_eq_getElem?_getD, List.getElem?_eq_getElem hi]; rfl
    obtain ⟨j, hj, h1, h2⟩ := k8g h _ i hi (Nat.le_refl _)
    exact ⟨aB xs j, (tY _).2 ⟨j, hj, h1, rfl⟩, HC.mono (e ▸ h2) hc⟩
theorem k6m {xs : List Bx} (h : BsV xs) (hn : xs.length ≤ 64) : b7 xs = x4 xs xs.length ∧ sB xs = 0 ∧ BsV (b7 xs) := by
  obtain ⟨h1, h2⟩ := k6l (h.vb hn)
  exact ⟨h1, h2, by rw [h1]; exact u90 h⟩
theorem u60 {xs : List Bx} (h : BsV xs) (hn : xs.length ≤ 64) (c : Co) : LCo (b7 xs) c ↔ LCo xs c := by
  rw [(k6m h hn).1]; exact u8y h c
end Go.Proofs.YtcfmjpnffembpaaGreat
namespace Go.Proofs.YtcfmjpnffembpaaGreat
open Go.ChangeShapes Go.WideShapes Go.ChangeAt Go.RowKit
set_option linter.unusedVariables false
set_option linter.unusedSimpArgs false
/-! chapter 10: what is in two boxes, in two lists -/
theorem u5h {n : Nat} (h : n < 256) : IntKind.i64.wrap ((n : Nat) : Int) = (n : Int) := by
  unfold IntKind.wrap; simp [IntKind.bits, IntKind.signed]; omega
theorem u0d {n : Nat} (h : n < 256) : (BitVec.ofInt 64 (n : Int)).toNat = n := by
  rw [BitVec.ofInt_natCast, BitVec.toNat_ofNat]; exact Nat.mod_eq_of_lt (by omega)
theorem k2q {n m : Nat} (hn : n < 256) (hm : m < 256) : qK (n : Int) (m : Int) = ((n &&& m : Nat) : Int) := by
  have h1 : n &&& m ≤ n := Nat.and_le_left
  show IntKind.i64.wrap (((BitVec.ofInt 64 (n : Int) &&& BitVec.ofInt 64 (m : Int)).toNat : Nat) : Int) = _
  rw [BitVec.toNat_and, u0d hn, u0d hm]
  exact u5h (by omega)
theorem u6b {n q : Nat} (hn : n < 256) : dE ((n : Int) / ((2 ^ q : Nat) : Int)) = 1 ↔ n.testBit q = true := by
  have h1 : n / 2 ^ q ≤ n := Nat.div_le_self _ _
  have h2 : dE ((n : Int) / ((2 ^ q : Nat) : Int)) = ((n / 2 ^ q % 2 : Nat) : Int) := by
    rw [← Int.natCast_ediv]
    show qK ((n / 2 ^ q : Nat) : Int) ((1 : Nat) : Int) = _
    rw [k2q (by omega) (by decide), Nat.and_one_is_mod]
  rw [h2, Nat.testBit_eq_decide_div_mod_eq, decide_eq_true_iff]
  omega
theorem k26 {n q : Nat} (hn : n < 256) (h1 : 1 ≤ q) (h2 : q ≤ 7) : jH (n : Int) q = true ↔ n.testBit q = true := by
  unfold jH
  rw [decide_eq_true_iff, u6b hn]
  exact ⟨fun e => e.2.2, fun e => ⟨h1, h2, e⟩⟩
theorem KG.nat2 {k : Int} (h : KG k) : ∃ n : Nat, n < 256 ∧ n % 2 = 0 ∧ n ≤ 254 ∧ k = (n : Int) := by
  unfold KG at h
  exact ⟨k.toNat, by omega, by omega, by omega, by omega⟩
theorem xN {k l : Int} (hk : KG k) (hl : KG l) : (qK k l = 0 ∨ KG (qK k l)) ∧ ∀ q, 1 ≤ q → q ≤ 7 → (jH (qK k l) q = true ↔ jH k q = true ∧ jH l q = true) := by
  obtain ⟨n, hn, en, ln, rfl⟩ := hk.nat2
  obtain ⟨m, hm, em, lm, rfl⟩ := hl.nat2
  have h1 : n &&& m ≤ n := Nat.and_le_left
  rw [k2q hn hm]
  constructor
  · have h2 : (n &&& m).testBit 0 = false := by
      rw [Nat.testBit_and, Nat.testBit_zero, decide_eq_false (by omega)]; rfl
    rw [Nat.testBit_zero, decide_eq_false_iff_not] at h2
    unfold KG; omega
  · intro q q1 q2
    rw [k26 (by omega) q1 q2, k26 hn q1 q2, k26 hm q1 q2, Nat.testBit_and, Bool.and_eq_true]
theorem u09 {a b : List (List Int)} {m : List Int} : ∀ i, i ≤ a.length → (m ∈ uJ a b i ↔ m ∈ b ∧ ∃ j, j < i ∧ List.getD a j [] = m)
  | 0, _ => ⟨fun h => (by cases h), fun ⟨_, j, hj, _⟩ => absurd hj (Nat.not_lt_zero j)⟩
  | i + 1, hi => by
    have ih := u09 (a := a) (b := b) (m := m) i (by omega)
    rw [uJ]
    cases e : gI b (List.getD a i []) with
    | true =>
      rw [if_pos rfl, List.mem_append, ih, List.mem_singleton]
      constructor
      · rintro (⟨h1, j, hj, h2⟩ | h)
        · exact ⟨h1, j, by omega, h2⟩
        · exact ⟨by rw [h]; exact of_decide_eq_true e, i, by omega, h.symm⟩
      · rintro ⟨h1, j, hj, h2⟩
        by_cases e2 : j = i
        · subst e2; exact .inr h2.symm
        · exact .inl ⟨h1, j, by omega, h2⟩
    | false =>
      rw [if_neg (by decide), ih]
      constructor
      · rintro ⟨h1, j, hj, h2⟩; exact ⟨h1, j, by omega, h2⟩
      · rintro ⟨h1, j, hj, h2⟩
        by_cases e2 : j = i
        · subst e2; rw [h2] at e; exact absurd h1 (of_decide_eq_false e)
        · exact ⟨h1, j, by omega, h2⟩
theorem jM {a b : List (List Int)} {m : List Int} : m ∈ uJ a b a.length ↔ m ∈ a ∧ m ∈ b := by
  rw [u09 a.length (Nat.le_refl _)]
  constructor
  · rintro ⟨h1, j, hj, rfl⟩
    refine ⟨?_, h1⟩
    rw [List.getD_eq_getElem?_getD, List.getElem?_eq_getElem hj]; exact List.getElem_mem hj
  · rintro ⟨h1, h2⟩
    obtain ⟨j, hj, rfl⟩ := List.mem_iff_getElem.1 h1
    exact ⟨h2, j, hj, by rw [List.getD_eq_getElem?_getD, List.getElem?_eq_getElem hj]; rfl⟩
theorem u5j {ms : List (List Int)} (h : p8 ms = true) : MsV ms := by
  obtain ⟨h1, h2, h3⟩ := of_decide_eq_true h
  have e : ∀ i (hi : i < ms.length), List.getD ms i [] = ms[i] := fun i hi => by rw [List.getD_eq_getElem?_getD, List.getElem?_eq_getElem hi]; rfl
  refine ⟨fun m hm => ?_, List.pairwise_iff_getElem.2 fun i j hi hj hij => ?_⟩
  · obtain ⟨i, hi, rfl⟩ := List.mem_iff_getElem.1 hm
    have h4 := h3 i hi
    unfold vmE at h4
    rw [Bool.and_eq_true, e i hi] at h4; exact h4.1
  · have h4 := h3 j hj
    unfold vmE at h4
    rw [Bool.and_eq_true, e j hj, Bool.not_eq_true'] at h4
    intro e2
    refine of_decide_eq_false h4.2 ?_
    rw [← e2]
    exact List.mem_iff_getElem.2 ⟨i, by rw [List.length_take]; omega, by rw [List.getElem_take]⟩
theorem u08 (a b : List (List Int)) : ∀ i, i ≤ a.length → (uJ a b i).Sublist (List.take i a)
  | 0, _ => List.nil_sublist _
  | i + 1, hi => by
    have ih := u08 a b i (by omega)
    have e : List.take (i + 1) a = List.take i a ++ [List.getD a i []] := by
      rw [List.take_succ_eq_append_getElem (by omega), List.getD_eq_getElem?_getD, List.getElem?_eq_getElem (by omega)]; rfl
    rw [uJ, e]; split
    · exact List.Sublist.append ih (List.Sublist.refl _)
    · exact ih.trans (List.sublist_append_left _ _)
theorem v2v {a b : List (List Int)} (h : p8 a = true) (h1 : 1 ≤ (uJ a b a.length).length) : p8 (uJ a b a.length) = true := by
  have hs := u08 a b a.length (Nat.le_refl _)
  rw [List.take_length] at hs
  have hm := u5j h
  have hl := (of_decide_eq_true h).2.1
  exact u3w ⟨fun m hm2 => hm.1 m (hs.mem hm2), hm.2.sublist hs⟩ h1 (Nat.le_trans hs.length_le hl)
theorem k61 {l : List Int} {n : Nat} {lo hi : Int} (hl : l.length = n * 2) (h : d9 l n lo hi = true) {x : Int} (hx : dK l x = true) : lo ≤ x ∧ x ≤ hi := by
  unfold d9 at h
  rw [Bool.and_eq_true, decide_eq_true_iff] at h
  obtain ⟨h1, h2, h3, h4⟩ := h
  have hok := ((cI hl).1 h1).2
  obtain ⟨p, hp, h5⟩ := aV.1 hx
  obtain ⟨j, hj, rfl⟩ := (yF hl).1 hp
  have mono : ∀ a b, a ≤ b → b < n → List.getD l (a * 2) 0 ≤ List.getD l (b * 2) 0 ∧ List.getD l (a * 2 + 1) 0 ≤ List.getD l (b * 2 + 1) 0 := fun a b hab hb => by
    induction b with
    | zero => obtain rfl : a = 0 := by omega
              exact ⟨Int.le_refl _, Int.le_refl _⟩
    | succ b ih =>
      by_cases e : a = b + 1
      · subst e; exact ⟨Int.le_refl _, Int.le_refl _⟩
      · have i1 := ih (by omega) (by omega)
        have g := wB _ hok b _ _ (by rw [List.getElem?_eq_getElem (by rw [qW hl]; omega), k6t hl (by omega)]) (by rw [List.getElem?_eq_getElem (by rw [qW hl]; omega), k6t hl (by omega)])
        have v1 := gE hok _ ((yF hl).2 ⟨b, by omega, rfl⟩)
        have v2 := gE hok _ ((yF hl).2 ⟨b + 1, by omega, rfl⟩)
        unfold fK at v1 v2
        simp only at g v1 v2
        omega
  have m1 := mono 0 j (Nat.zero_le _) hj
  have m2 := mono j (n - 1) (by omega) (by omega)
  simp only [Nat.zero_mul, Nat.zero_add] at m1
  simp only at h5
  omega
theorem u3v {l : List Int} {n : Nat} {lo hi : Int} (hl : l.length = n * 2) (h1 : eX l n = true) (h2 : 1 ≤ n) (h : ∀ x, dK l x = true → lo ≤ x ∧ x ≤ hi) : d9 l n lo hi = true := by
  have hok := ((cI hl).1 h1).2
  have e : ∀ j, j < n → fK (List.getD l (j * 2) 0, List.getD l (j * 2 + 1) 0) := fun j hj => gE hok _ ((yF hl).2 ⟨j, hj, rfl⟩)
  have e0 := e 0 (by omega); have e1 := e (n - 1) (by omega)
  unfold fK at e0 e1
  simp only [Nat.zero_mul, Nat.zero_add] at e0 e1
  have a1 := h (List.getD l 0 0) (k8d hl (k := 0) (by omega) (by simp only [Nat.zero_mul, Nat.zero_add]; omega))
  have a2 := h (List.getD l ((n - 1) * 2 + 1) 0) (k8d hl (k := n - 1) (by omega) (by omega))
  exact u5i h1 ⟨h2, a1.1, a2.2⟩
theorem k88 {a b : List Int} {n m : Nat} (ha : a.length = n * 2) (hb : b.length = m * 2) : eX (uM (kC a n) (kC b m)) (qM (kC a n) (kC b m)) = true := (cI (uR _ _)).2 ⟨aO _ _, k0e ha hb⟩
theorem k89 {a b : List Int} {n m : Nat} (ha : a.length = n * 2) (hb : b.length = m * 2) : (fD (uF (kC a n)) (uF (kC b m))).length ≤ n + m := by
  have := wP _ (uF (kC a n)) (uF (kC b m)) (Nat.le_refl _) (uG ha) (uG hb)
  rw [qW (kU ha), qW (kU hb)] at this
  have h1 := (aN (l := a) (n := n)).2
  have h2 := (aN (l := b) (n := m)).2
  omega
theorem nC {a b : List Int} {n m : Nat} (ha : a.length = n * 2) (hb : b.length = m * 2) (hq : n + m ≤ 64) {x : Int} : dK (uM (kC a n) (kC b m)) x = true ↔ dK (kC a n) x = true ∧ dK (kC b m) x = true := by
  have h1 := k89 ha hb
  rw [aV, aV, aV]
  unfold uM; rw [o4, List.take_of_length_le (by omega)]
  exact v09 _ _ x
def BxF (b : Bx) : Prop := b.rn ≤ 5 ∧ b.sn ≤ 5
def BsF (xs : List Bx) : Prop := ∀ b ∈ xs, BxF b
def rD (a b : Bx) : Bx := u7 (qK a.k b.k) (uM (kC a.r a.rn) (kC b.r b.rn)) (qM (kC a.r a.rn) (kC b.r b.rn)) (uJ a.m b.m a.m.length) (uM (kC a.s a.sn) (kC b.s b.sn)) (qM (kC a.s a.sn) (kC b.s b.sn))
def okX (b : Bx) : Bool := d5 b.k b.r b.rn b.m b.s b.sn
theorem v2o (q : Nat) : jH 0 q = false := decide_eq_false fun ⟨_, _, h⟩ => by
  rw [Int.zero_ediv] at h
  exact absurd h (by decide)
theorem v0p {a : Bx} (h : BxW a) (b : Bx) : BxW (rD a b) := by
  refine ⟨uR _ _, uR _ _, Nat.le_trans (aO _ _) (by decide), Nat.le_trans (aO _ _) (by decide), ?_, nE h.2.2.2.2.2 _ _⟩
  have h1 := bT a.m b.m a.m.length
  have h2 := h.2.2.2.2.1
  show List.length (uJ _ _ _) ≤ _
  omega
theorem u05 {a b : Bx} (ha : BxV a) (hb : BxV b) (h : okX (rD a b) = true) : BxV (rD a b) := by
  refine ⟨v0p ha.1 b, ?_, h⟩
  exact (xN ha.2.1 hb.2.1).1.elim (fun e => absurd e (b6 h).1.1) id
theorem pM {a b : Bx} (ha : BxV a) (hb : BxV b) (fa : BxF a) (fb : BxF b) (c : Co) : okX (rD a b) = true ∧ HC (rD a b) c ↔ HC a c ∧ HC b c := by
  obtain ⟨⟨wr, ws, _⟩, ka, oa⟩ := id ha
  obtain ⟨⟨vr, vs, _⟩, kb, ob⟩ := id hb
  obtain ⟨⟨a1, a2, _⟩, a3, a4, _⟩ := BxV.sets ha
  obtain ⟨⟨b1, b2, _⟩, b3, b4, _⟩ := BxV.sets hb
  obtain ⟨pa1, pa2, pa3, pa4⟩ := b6 ha.2.2
  obtain ⟨f1, f2⟩ := fa
  obtain ⟨f3, f4⟩ := fb
  obtain ⟨d1, d2⟩ := xN ka kb
  have hr : ∀ x, dK (rD a b).r x = true ↔ dK a.r x = true ∧ dK b.r x = true := fun x => by
    have := nC (x := x) wr vr (by omega)
    rw [a2, b2] at this; show dK (uM (kC a.r a.rn) (kC b.r b.rn)) x = true ↔ _
    rw [a2, b2]; exact this
  have hs : ∀ x, dK (rD a b).s x = true ↔ dK a.s x = true ∧ dK b.s x = true := fun x => by
    have := nC (x := x) ws vs (by omega)
    rw [a4, b4] at this; show dK (uM (kC a.s a.sn) (kC b.s b.sn)) x = true ↔ _
    rw [a4, b4]; exact this
  have hm : ∀ m, m ∈ (rD a b).m ↔ m ∈ a.m ∧ m ∈ b.m := fun m => jM
  have key : HC (rD a b) c ↔ HC a c ∧ HC b c := by
    unfold HC
    rw [hr, hs, hm]
    constructor
    · rintro ⟨⟨q1, q2, q3⟩, ⟨r1, r2⟩, ⟨m1, m2⟩, s1, s2⟩
      have := (d2 c.k.toNat (by omega) (by omega)).1 q3
      exact ⟨⟨⟨q1, q2, this.1⟩, r1, m1, s1⟩, ⟨q1, q2, this.2⟩, r2, m2, s2⟩
    · rintro ⟨⟨⟨q1, q2, q3⟩, r1, m1, s1⟩, ⟨_, _, q4⟩, r2, m2, s2⟩
      exact ⟨⟨q1, q2, (d2 c.k.toNat (by omega) (by omega)).2 ⟨q3, q4⟩⟩, ⟨r1, r2⟩, ⟨m1, m2⟩, s1, s2⟩
  rw [key]
  refine ⟨fun h => h.2, fun h => ⟨?_, h⟩⟩
  have hc := key.2 h
  have hk : ¬ qK a.k b.k = 0 := fun e => by
    have h1 : jH (qK a.k b.k) c.k.toNat = true := hc.1.2.2
    rw [e, v2o] at h1; cases h1
  have hg : KG (qK a.k b.k) := d1.elim (fun e => absurd e hk) id
  have ne : ∀ {l : List Int} {n : Nat} {x : Int}, l.length = n * 2 → dK l x = true → 1 ≤ n := fun {l n x} hl hx => by
    obtain ⟨p, hp, _⟩ := aV.1 hx
    have := List.length_pos_of_mem hp
    rw [qW hl] at this; omega
  have lr : (rD a b).r.length = (rD a b).rn * 2 := uR _ _
  have ls : (rD a b).s.length = (rD a b).sn * 2 := uR _ _
  refine mT hg.ok.1 ?_ ?_ ?_
  · exact u3v lr (k88 wr vr) (ne lr hc.2.1) fun x hx => k61 wr pa2 ((hr x).1 hx).1
  · exact v2v pa3 (List.length_pos_of_mem hc.2.2.1)
  · exact u3v ls (k88 ws vs) (ne ls hc.2.2.2) fun x hx => k61 ws pa4 ((hs x).1 hx).1
theorem k7t {a b : List Int} {n m : Nat} (ha : a.length = n * 2) (hb : b.length = m * 2) (h : n + m < 64) : sM a n b m = true := by
  refine v01 ?_
  have := k89 ha hb
  unfold qM; rw [List.length_take]; omega
/-! two lists -/
theorem u0a {xs ys : List Bx} {i : Nat} {o : List Bx} {b : Bx} : ∀ j, b ∈ cjL xs ys i o j ↔ b ∈ o ∨ ∃ k, k < j ∧ crV xs ys i k = true ∧ b = crB xs ys i k
  | 0 => ⟨.inl, fun h => h.elim id fun ⟨k, hk, _⟩ => absurd hk (Nat.not_lt_zero k)⟩
  | j + 1 => by
    have ih := u0a (xs := xs) (ys := ys) (i := i) (o := o) (b := b) j
    rw [cjL]
    cases e : crV xs ys i j with
    | true =>
      rw [if_pos rfl, List.mem_append, ih, List.mem_singleton]
      constructor
      · rintro ((h | ⟨k, hk, h⟩) | h)
        · exact .inl h
        · exact .inr ⟨k, by omega, h⟩
        · exact .inr ⟨j, by omega, e, h⟩
      · rintro (h | ⟨k, hk, h1, h2⟩)
        · exact .inl (.inl h)
        · by_cases e2 : k = j
          · subst e2; exact .inr h2
          · exact .inl (.inr ⟨k, by omega, h1, h2⟩)
    | false =>
      rw [if_neg (by decide), ih]
      constructor
      · rintro (h | ⟨k, hk, h⟩)
        · exact .inl h
        · exact .inr ⟨k, by omega, h⟩
      · rintro (h | ⟨k, hk, h1, h2⟩)
        · exact .inl h
        · by_cases e2 : k = j
          · subst e2; rw [e] at h1; cases h1
          · exact .inr ⟨k, by omega, h1, h2⟩
theorem xE {xs ys : List Bx} {b : Bx} : ∀ i, b ∈ zC xs ys i ↔ ∃ a k, a < i ∧ k < ys.length ∧ crV xs ys a k = true ∧ b = crB xs ys a k
  | 0 => ⟨fun h => (by cases h), fun ⟨a, _, h, _⟩ => absurd h (Nat.not_lt_zero a)⟩
  | i + 1 => by
    have ih := xE (xs := xs) (ys := ys) (b := b) i
    rw [zC, u0a, ih]
    constructor
    · rintro (⟨a, k, h1, h⟩ | ⟨k, h⟩)
      · exact ⟨a, k, by omega, h⟩
      · exact ⟨i, k, by omega, h⟩
    · rintro ⟨a, k, h1, h⟩
      by_cases e : a = i
      · subst e; exact .inr ⟨k, h⟩
      · exact .inl ⟨a, k, by omega, h⟩
theorem k2n (xs ys : List Bx) (i : Nat) (o : List Bx) : ∀ j, (cjL xs ys i o j).length ≤ o.length + j
  | 0 => Nat.le_refl _
  | j + 1 => by
    have := k2n xs ys i o j
    rw [cjL]; split
    · rw [List.length_append, List.length_singleton]; omega
    · omega
theorem k2o (xs ys : List Bx) : ∀ i, (zC xs ys i).length ≤ i * ys.length
  | 0 => Nat.zero_le _
  | i + 1 => by
    have := k2o xs ys i
    have h2 := k2n xs ys i (zC xs ys i) ys.length
    rw [zC, Nat.succ_mul]; omega
theorem v04 {xs ys : List Bx} (hs : ∀ i j, i < xs.length → j < ys.length → crS xs ys i j = true) (hn : xs.length * ys.length < 64) : ∀ i, i ≤ xs.length → liB xs ys i = true
  | 0, _ => rfl
  | i + 1, hi => by
    have ih := v04 hs hn i (by omega)
    have hj : ∀ j, j ≤ ys.length → ljB xs ys i (liB xs ys i) j = true := fun j => by
      induction j with
      | zero => intro _; exact ih
      | succ j ihj =>
        intro hj
        show (ljB xs ys i (liB xs ys i) j && (!(crV xs ys i j) || (crS xs ys i j && decide (List.length (cjL xs ys i (zC xs ys i) j) ≠ 64)))) = true
        have h1 := k2n xs ys i (zC xs ys i) j
        have h2 := k2o xs ys i
        have h3 : (i + 1) * ys.length ≤ xs.length * ys.length := Nat.mul_le_mul_right _ hi
        rw [Nat.succ_mul] at h3
        rw [ihj (by omega), hs i j (by omega) (by omega), decide_eq_true (by omega)]
        simp
    exact hj _ (Nat.le_refl _)
theorem u4b {xs ys : List Bx} (h : BsV xs) (h2 : BsV ys) (f : BsF xs) (f2 : BsF ys) (hn : xs.length * ys.length < 64) (hx : xs.length ≤ 64) (hy : ys.length ≤ 64) : d7 xs ys = b7 (zC xs ys xs.length) ∧ mO xs ys = 0 ∧ BsV (d7 xs ys) ∧ ∀ c, LCo (d7 xs ys) c ↔ LCo xs c ∧ LCo ys c := by
  have hl := k2o xs ys xs.length
  have hcr : ∀ i j, crV xs ys i j = okX (rD (aB xs i) (aB ys j)) := fun _ _ => rfl
  have hV : BsV (zC xs ys xs.length) := fun b hb => by
    obtain ⟨i, j, hi, hj, h3, rfl⟩ := (xE _).1 hb
    exact u05 (h _ (qF hi)) (h2 _ (qF hj)) h3
  obtain ⟨r1, r2, r3⟩ := k6m hV zo
  have hli := v04 (xs := xs) (ys := ys) (fun i j hi hj => by
    have a1 := h _ (qF hi); have a2 := f _ (qF hi)
    have b1 := h2 _ (qF hj); have b2 := f2 _ (qF hj)
    unfold BxF at a2 b2
    exact u8h (k7t a1.1.1 b1.1.1 (show (aB xs i).rn + (aB ys j).rn < 64 by omega)) (k7t a1.1.2.1 b1.1.2.1 (show (aB xs i).sn + (aB ys j).sn < 64 by omega))) hn xs.length (Nat.le_refl _)
  obtain ⟨e1, e2⟩ := v07 (h.vb hx) (h2.vb hy) (show CI xs ys xs.length (zC xs ys xs.length) from ⟨rfl, hli⟩) rfl
  refine ⟨e1, by rw [e2]; exact r2, by rw [e1]; exact r3, fun c => ?_⟩
  rw [e1, u60 hV (by omega)]
  constructor
  · rintro ⟨b, hb, hc⟩
    obtain ⟨i, j, hi, hj, h3, rfl⟩ := (xE _).1 hb
    have := (pM (h _ (qF hi)) (h2 _ (qF hj)) (f _ (qF hi)) (f2 _ (qF hj)) c).1 ⟨h3, hc⟩
    exact ⟨⟨_, qF hi, this.1⟩, _, qF hj, this.2⟩
  · rintro ⟨⟨a, ha, hc⟩, b, hb, hd⟩
    obtain ⟨i, hi, rfl⟩ := List.mem_iff_getElem.1 ha
    obtain ⟨j, hj, rfl⟩ := List.mem_iff_getElem.1 hb
    have ei : aB xs i = xs[i] := by unfold aB; rw [List.getD_eq_getElem?_getD, List.getElem?_eq_getElem hi]; rfl
    have ej : aB ys j = ys[j] := by unfold aB; rw [List.getD_eq_getElem?_getD, List.getElem?_eq_getElem hj]; rfl
    rw [← ei] at hc; rw [← ej] at hd
    have := (pM (h _ (qF hi)) (h2 _ (qF hj)) (f _ (qF hi)) (f2 _ (qF hj)) c).2 ⟨hc, hd⟩
    exact ⟨_, (xE _).2 ⟨i, j, hi, hj, this.1, rfl⟩, this.2⟩
/-! made boxes have few spans -/
theorem k7o {l : List Int} {n : Nat} (hl : l.length = n * 2) : vS l n ≤ n := by
  cases e : rgB l n with
  | false => rw [(wH e).2.2]; exact Nat.zero_le _
  | true =>
    have h1 := k85 hl (mL.1 e)
    by_cases h2 : n9 l ≤ 64
    · rw [(wG e h2).2.2]; exact h1
    · rw [(k7n e (by omega)).2.2]; exact Nat.zero_le _
theorem v0v {l : List Int} (h : Byt l) : BxF (boX l) := by
  have b1 : Byt (bo1 l) := qH _ (qH _ h)
  have b2 : Byt (bo2 l) := aF b1 _
  have b3 : Byt (bo3 l) := aP b2
  have n1 := qP (uH (bo2 l) 5) 5 (y3 b2 5)
  have n2 := qP (uH (bo3 l) 4) 4 (y3 b3 4)
  obtain ⟨_, r2, r3⟩ := k35 u8t (by decide) (bo2 l) (by show kD _ 5 < 5; omega)
  obtain ⟨_, s2, s3⟩ := k35 u8l (by decide) (bo3 l) (by show kD _ 4 < 4; omega)
  have e1 := k7o r3.1
  have e2 := k7o s3.1
  exact ⟨Nat.le_trans e1 r2, Nat.le_trans e2 (Nat.le_trans s2 (by decide))⟩
theorem BsF.nil : BsF [] := fun b hb => by cases hb
theorem BsF.app {a b : List Bx} (h : BsF a) (h2 : BsF b) : BsF (a ++ b) := fun m hm => (List.mem_append.1 hm).elim (h m) (h2 m)
theorem BsF.one {b : Bx} (h : BxF b) : BsF [b] := fun m hm => by rw [List.mem_singleton.1 hm]; exact h
theorem BsF.box {xs : List Bx} (h : BsF xs) {i : Nat} (hi : i < xs.length) : BxF (u7 (kQ xs i) (kZ xs i) (kX xs i) (kL xs i) (qA xs i) (k8 xs i)) := h _ (qF hi)
theorem u52 {l : List Int} (h : Byt l) : ∀ i, BsF (bbL l i)
  | 0 => BsF.nil
  | i + 1 => (u52 h i).app (BsF.one (v0v (iB h i)))
end Go.Proofs.YtcfmjpnffembpaaGreat
