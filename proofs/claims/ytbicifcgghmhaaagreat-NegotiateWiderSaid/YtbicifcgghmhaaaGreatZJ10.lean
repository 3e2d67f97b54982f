/- Merged texts. -/
import Derived.Test.YtbicifcgghmhaaaGreatZW10
import Derived.Test.YtbicifcgghmhaaaGreatZL10R
namespace Go.Proofs.YtbicifcgghmhaaaGreat
open Go.ChangeShapes Go.WideShapes Go.ChangeAt Go.RowKit
set_option linter.unusedVariables false
set_option linter.unusedSimpArgs false
/-! chapter 10: boxes by what they hold -/
def kbC (n q : Nat) : Bool := decide (eI ((2 * (n : Int) + 2) / ((2 ^ (q + 1) : Nat) : Int)) = 1)
def anC : Bool := (List.range 127).all fun n => (List.range 127).all fun m => (decide (oM (2 * (n : Int) + 2) (2 * (m : Int) + 2) = 0)) == ((List.range 7).all fun q => !(kbC n q) || kbC m q)
set_option maxRecDepth 100000 in
theorem v3b : anC = true := by kernel_rfl
theorem k7g {n q : Nat} (hq : q < 7) : gQ (2 * (n : Int) + 2) (q + 1) = kbC n q := by
  unfold gQ kbC
  by_cases h : eI ((2 * (n : Int) + 2) / ((2 ^ (q + 1) : Nat) : Int)) = 1
  · rw [decide_eq_true h, decide_eq_true ⟨by omega, by omega, h⟩]
  · rw [decide_eq_false h, decide_eq_false fun e => h e.2.2]
theorem KG.nat {k : Int} (h : KG k) : ∃ n : Nat, n < 127 ∧ k = 2 * (n : Int) + 2 := by
  unfold KG at h
  exact ⟨((k - 2) / 2).toNat, by omega, by omega⟩
theorem u8z {k l : Int} (hk : KG k) (hl : KG l) : oM k l = 0 ↔ ∀ q, 1 ≤ q → q ≤ 7 → gQ k q = true → gQ l q = true := by
  obtain ⟨n, hn, rfl⟩ := hk.nat
  obtain ⟨m, hm, rfl⟩ := hl.nat
  have h := List.all_eq_true.1 (List.all_eq_true.1 v3b n (List.mem_range.2 hn)) m (List.mem_range.2 hm)
  have h := (beq_iff_eq).1 h
  constructor
  · intro h1 q hq1 hq2 h2
    rw [decide_eq_true h1] at h
    obtain ⟨r, rfl⟩ : ∃ r, q = r + 1 := ⟨q - 1, by omega⟩
    have h3 := List.all_eq_true.1 h.symm r (List.mem_range.2 (by omega))
    rw [k7g (by omega)] at h2 ⊢
    rw [h2] at h3
    simpa using h3
  · intro h1
    have h2 : ((List.range 7).all fun q => !(kbC n q) || kbC m q) = true := List.all_eq_true.2 fun q hq => by
      have hq := List.mem_range.1 hq
      cases e : kbC n q with
      | false => rfl
      | true =>
        have h3 := h1 (q + 1) (by omega) (by omega) (by rw [k7g hq]; exact e)
        rw [k7g hq] at h3
        rw [h3]; rfl
    rw [h2] at h
    exact of_decide_eq_true h
theorem k7t {a b : List Int} {n m : Nat} (ha : a.length = n * 2) (hb : b.length = m * 2) (va : eH a n = true) (vb : eH b m = true) : xF a b = true ↔ ∀ x, bA a x = true → bA b x = true := by
  constructor
  · intro h x hx
    obtain ⟨p, hp, h1⟩ := yZ.1 hx
    obtain ⟨q, hq, h2⟩ := List.any_eq_true.1 (List.all_eq_true.1 h p hp)
    have h2 := of_decide_eq_true h2
    exact yZ.2 ⟨q, hq, by omega, by omega⟩
  · intro h
    exact u83 ((aD ha).1 va).2 ((aD hb).1 vb).2 fun x hx => yZ.1 (h x (yZ.2 hx))
theorem u75 {a b : List (List Int)} : sgB a b = false ↔ ∀ m ∈ a, m ∈ b := by
  unfold sgB
  rw [decide_eq_false_iff_not]
  constructor
  · intro h m hm
    by_cases e : m ∈ b
    · exact e
    · exact absurd ⟨m, hm, e⟩ h
  · rintro h ⟨m, hm, e⟩
    exact e (h m hm)
def NI (a b : Bx) : Prop := (∀ q, 1 ≤ q → q ≤ 7 → gQ a.k q = true → gQ b.k q = true) ∧ (∀ x, bA a.r x = true → bA b.r x = true) ∧ (∀ m ∈ a.m, m ∈ b.m) ∧ (∀ x, bA a.s x = true → bA b.s x = true)
theorem NI.refl (a : Bx) : NI a a := ⟨fun _ _ _ h => h, fun _ h => h, fun _ h => h, fun _ h => h⟩
theorem NI.trans {a b c : Bx} (h : NI a b) (h2 : NI b c) : NI a c := ⟨fun q h3 h4 h5 => h2.1 q h3 h4 (h.1 q h3 h4 h5), fun x h3 => h2.2.1 x (h.2.1 x h3), fun m h3 => h2.2.2.1 m (h.2.2.1 m h3), fun x h3 => h2.2.2.2 x (h.2.2.2 x h3)⟩
theorem BxV.sets {b : Bx} (h : BxV b) : (eH b.r b.rn = true ∧ kB b.r b.rn = b.r ∧ 1 ≤ b.rn) ∧ (eH b.s b.sn = true ∧ kB b.s b.sn = b.s ∧ 1 ≤ b.sn) := by
  obtain ⟨_, p2, _, p4⟩ := vQ h.2.2
  obtain ⟨r1, r2, _, r4⟩ := dG p2
  obtain ⟨s1, s2, _, s4⟩ := dG p4
  exact ⟨⟨r1, r2, r4⟩, s1, s2, s4⟩
theorem k6r {a b : Bx} (ha : BxV a) (hb : BxV b) : oE a.k a.r a.rn a.m a.s a.sn b.k b.r b.rn b.m b.s b.sn = true ↔ NI a b := by
  obtain ⟨⟨a1, a2, _⟩, a3, a4, _⟩ := ha.sets
  obtain ⟨⟨b1, b2, _⟩, b3, b4, _⟩ := hb.sets
  unfold oE NI
  rw [a2, a4, b2, b4, Bool.and_eq_true, Bool.and_eq_true, Bool.and_eq_true, decide_eq_true_iff, u8z ha.2.1 hb.2.1, k7t ha.1.1 hb.1.1 a1 b1, k7t ha.1.2.1 hb.1.2.1 a3 b3, Bool.not_eq_true', u75]
def HC (b : Bx) (c : Co) : Prop := (1 ≤ c.k ∧ c.k ≤ 7 ∧ gQ b.k c.k.toNat = true) ∧ bA b.r c.r = true ∧ c.m ∈ b.m ∧ bA b.s c.s = true
theorem nJ {b : Bx} (h : BxV b) {c : Co} : eO b.k b.r b.rn b.m b.s b.sn c.k c.r c.m c.s = true ↔ HC b c := by
  obtain ⟨⟨_, a2, _⟩, _, a4, _⟩ := h.sets
  unfold eO HC kjB gX
  rw [a2, a4, Bool.and_eq_true, Bool.and_eq_true, Bool.and_eq_true, Bool.and_eq_true, decide_eq_true_iff, decide_eq_true_iff]
  exact ⟨fun ⟨⟨a, b⟩, d⟩ => ⟨⟨a.1, a.2, b⟩, d⟩, fun ⟨⟨a, b, d⟩, f⟩ => ⟨⟨⟨a, b⟩, d⟩, f⟩⟩
theorem HC.mono {a b : Bx} (h : NI a b) {c : Co} (hc : HC a c) : HC b c := ⟨⟨hc.1.1, hc.1.2.1, h.1 _ (by have := hc.1.1; omega) (by have := hc.1.2.1; omega) hc.1.2.2⟩, h.2.1 _ hc.2.1, h.2.2.1 _ hc.2.2.1, h.2.2.2 _ hc.2.2.2⟩
def LCo (xs : List Bx) (c : Co) : Prop := ∃ b ∈ xs, HC b c
theorem u7v {xs : List Bx} (h : BsV xs) (hn : xs.length ≤ 64) {k r : Int} {m : List Int} {z : Int} : xH (kK xs) k r m z = true ↔ LCo xs ⟨k, r, m, z⟩ := by
  rw [h.eq hn, k7u]
  constructor
  · rintro ⟨b, hb, hc⟩; exact ⟨b, hb, (nJ (h b hb)).1 hc⟩
  · rintro ⟨b, hb, hc⟩; exact ⟨b, hb, (nJ (h b hb)).2 hc⟩
theorem LCo.app {xs ys : List Bx} {c : Co} : LCo (xs ++ ys) c ↔ LCo xs c ∨ LCo ys c := by
  constructor
  · rintro ⟨b, hb, h⟩; exact (List.mem_append.1 hb).imp (fun h1 => ⟨b, h1, h⟩) fun h1 => ⟨b, h1, h⟩
  · rintro (⟨b, hb, h⟩ | ⟨b, hb, h⟩)
    · exact ⟨b, List.mem_append_left _ hb, h⟩
    · exact ⟨b, List.mem_append_right _ hb, h⟩
/-! boxes that are reduced away -/
def GO (xs : List Bx) (i j : Nat) : Prop := j ≠ i ∧ NI (u2 xs i) (u2 xs j) ∧ (j < i ∨ ¬ NI (u2 xs j) (u2 xs i))
theorem k0m {xs : List Bx} (h : BsV xs) {i j : Nat} (hi : i < xs.length) (hj : j < xs.length) : nZ xs i j = true ↔ GO xs i j := by
  have e1 := k6r (h _ (qM hi)) (h _ (qM hj))
  have e2 := k6r (h _ (qM hj)) (h _ (qM hi))
  have e1 : niE xs i xs j = true ↔ NI (u2 xs i) (u2 xs j) := e1
  have e2 : niE xs j xs i = true ↔ NI (u2 xs j) (u2 xs i) := e2
  unfold nZ GO
  rw [Bool.and_eq_true, Bool.and_eq_true, Bool.or_eq_true, decide_eq_true_iff, decide_eq_true_iff, e1, Bool.not_eq_true', ← Bool.not_eq_true, e2]
theorem GO.trans {xs : List Bx} {i j k : Nat} (h : GO xs i j) (h2 : GO xs j k) : GO xs i k := by
  obtain ⟨a1, a2, a3⟩ := h
  obtain ⟨b1, b2, b3⟩ := h2
  have key : NI (u2 xs k) (u2 xs i) → k < i := fun h => by
    have c1 : k < j := b3.elim id fun h9 => absurd (h.trans a2) h9
    have c2 : j < i := a3.elim id fun h9 => absurd (b2.trans h) h9
    omega
  refine ⟨fun e => ?_, a2.trans b2, ?_⟩
  · have := key (by rw [e]; exact NI.refl _); omega
  · by_cases e : NI (u2 xs k) (u2 xs i)
    · exact .inl (key e)
    · exact .inr e
theorem k9u {p q : Nat → Bool} (h : ∀ x, p x = true → q x = true) : ∀ l : List Nat, (∃ x ∈ l, q x = true ∧ p x = false) → l.countP p < l.countP q
  | [], ⟨x, hx, _⟩ => by cases hx
  | a :: l, ⟨x, hx, h1, h2⟩ => by
    have hm : l.countP p ≤ l.countP q := List.countP_mono_left fun x _ => h x
    rw [List.countP_cons, List.countP_cons]
    rcases List.mem_cons.1 hx with rfl | hx
    · rw [h1, h2]; simp only [if_true]; rw [if_neg (by decide)]; omega
    · have := k9u h l ⟨x, hx, h1, h2⟩
      cases e : p a with
      | true => rw [h a e]; omega
      | false => rw [if_neg (by decide)]; split <;> omega
theorem k7w {xs : List Bx} (h : BsV xs) : ∀ (N : Nat) (i : Nat), i < xs.length → (List.range xs.length).countP (fun j => nZ xs i j) ≤ N → ∃ j, j < xs.length ∧ goB xs j = false ∧ NI (u2 xs i) (u2 xs j)
  | N, i, hi, hc => by
    cases e : goB xs i with
    | false => exact ⟨i, hi, e, NI.refl _⟩
    | true =>
      obtain ⟨j, hj, h1⟩ := of_decide_eq_true e
      have g1 := (k0m h hi hj).1 h1
      have hlt : (List.range xs.length).countP (fun k => nZ xs j k && decide (k < xs.length)) < (List.range xs.length).countP (fun k => nZ xs i k && decide (k < xs.length)) := by
        refine k9u (fun k hk => ?_) _ ⟨j, List.mem_range.2 hj, ?_, ?_⟩
        · rw [Bool.and_eq_true, decide_eq_true_iff] at hk ⊢
          exact ⟨(k0m h hi hk.2).2 (g1.trans ((k0m h hj hk.2).1 hk.1)), hk.2⟩
        · rw [h1, decide_eq_true hj]; rfl
        · rw [u85 rfl]; rfl
      have ec : ∀ a, (List.range xs.length).countP (fun k => nZ xs a k && decide (k < xs.length)) = (List.range xs.length).countP (fun k => nZ xs a k) := fun a => List.countP_congr fun k hk => by
        rw [decide_eq_true (List.mem_range.1 hk), Bool.and_true]
      rw [ec, ec] at hlt
      cases N with
      | zero => omega
      | succ N =>
        obtain ⟨t, t1, t2, t3⟩ := k7w h N j hj zo
        exact ⟨t, t1, t2, g1.2.1.trans t3⟩
theorem jP {xs : List Bx} {b : Bx} : ∀ i, b ∈ oZ xs i ↔ ∃ j, j < i ∧ goB xs j = false ∧ b = u2 xs j
  | 0 => ⟨fun h => (by cases h), fun ⟨j, hj, _⟩ => absurd hj (Nat.not_lt_zero j)⟩
  | i + 1 => by
    have ih := jP (xs := xs) (b := b) i
    rw [oZ]
    cases e : goB xs i with
    | true =>
      rw [if_pos rfl, ih]
      constructor
      · rintro ⟨j, hj, h⟩; exact ⟨j, by omega, h⟩
      · rintro ⟨j, hj, h1, h2⟩
        refine ⟨j, ?_, h1, h2⟩
        by_cases e2 : j = i
        · rw [e2, e] at h1; cases h1
        · omega
    | false =>
      rw [if_neg (by decide), List.mem_append, ih, List.mem_singleton]
      constructor
      · rintro (⟨j, hj, h⟩ | h)
        · exact ⟨j, by omega, h⟩
        · exact ⟨i, by omega, e, h⟩
      · rintro ⟨j, hj, h1, h2⟩
        by_cases e2 : j = i
        · subst e2; exact .inr h2
        · exact .inl ⟨j, by omega, h1, h2⟩
theorem v0p {xs : List Bx} (h : BsV xs) : BsV (oZ xs xs.length) := fun b hb => by
  obtain ⟨j, hj, _, rfl⟩ := (jP _).1 hb
  exact h _ (qM hj)
theorem v0o {xs : List Bx} (h : BsV xs) (c : Co) : LCo (oZ xs xs.length) c ↔ LCo xs c := by
  constructor
  · rintro ⟨b, hb, hc⟩
    obtain ⟨j, hj, _, rfl⟩ := (jP _).1 hb
    exact ⟨_, qM hj, hc⟩
  · rintro ⟨b, hb, hc⟩
    obtain ⟨i, hi, rfl⟩ := List.mem_iff_getElem.1 hb
    have e : u2 xs i = xs[i] := by unfold u2; rw [List.getD_eq_getElem?_getD, List.getElem?_eq_getElem hi]; rfl
    obtain ⟨j, hj, h1, h2⟩ := k7w h _ i hi (Nat.le_refl _)
    exact ⟨u2 xs j, (jP _).2 ⟨j, hj, h1, rfl⟩, HC.mono (e ▸ h2) hc⟩
theorem k5z {xs : List Bx} (h : BsV xs) (hn : xs.length ≤ 64) : bD xs = oZ xs xs.length ∧ jB xs = 0 ∧ BsV (bD xs) := by
  obtain ⟨h1, h2⟩ := k5x (h.vb hn)
  exact ⟨h1, h2, by rw [h1]; exact v0p h⟩
theorem rO {xs : List Bx} (h : BsV xs) (hn : xs.length ≤ 64) (c : Co) : LCo (bD xs) c ↔ LCo xs c := by
  rw [(k5z h hn).1]; exact v0o h c
end Go.Proofs.YtbicifcgghmhaaaGreat
namespace Go.Proofs.YtbicifcgghmhaaaGreat
open Go.ChangeShapes Go.WideShapes Go.ChangeAt Go.RowKit
set_option linter.unusedVariables false
set_option linter.unusedSimpArgs false
/-! chapter 10: what is in two boxes, in two lists -/
theorem k4y {n : Nat} (h : n < 256) : IntKind.i64.wrap ((n : Nat) : Int) = (n : Int) := by
  unfold IntKind.wrap; simp [IntKind.bits, IntKind.signed]; omega
theorem u07 {n : Nat} (h : n < 256) : (BitVec.ofInt 64 (n : Int)).toNat = n := by
  rw [BitVec.ofInt_natCast, BitVec.toNat_ofNat]; exact Nat.mod_eq_of_lt (by omega)
theorem k15 {n m : Nat} (hn : n < 256) (hm : m < 256) : qG (n : Int) (m : Int) = ((n &&& m : Nat) : Int) := by
  have h1 : n &&& m ≤ n := Nat.and_le_left
  show IntKind.i64.wrap (((BitVec.ofInt 64 (n : Int) &&& BitVec.ofInt 64 (m : Int)).toNat : Nat) : Int) = _
  rw [BitVec.toNat_and, u07 hn, u07 hm]
  exact k4y (by omega)
theorem u7m {n q : Nat} (hn : n < 256) : eI ((n : Int) / ((2 ^ q : Nat) : Int)) = 1 ↔ n.testBit q = true := by
  have h1 : n / 2 ^ q ≤ n := Nat.div_le_self _ _
  have h2 : eI ((n : Int) / ((2 ^ q : Nat) : Int)) = ((n / 2 ^ q % 2 : Nat) : Int) := by
    rw [← Int.natCast_ediv]
    show qG ((n / 2 ^ q : Nat) : Int) ((1 : Nat) : Int) = _
    rw [k15 (by omega) (by decide), Nat.and_one_is_mod]
  rw [h2, Nat.testBit_eq_decide_div_mod_eq, decide_eq_true_iff]
  omega
theorem sI {n q : Nat} (hn : n < 256) (h1 : 1 ≤ q) (h2 : q ≤ 7) : gQ (n : Int) q = true ↔ n.testBit q = true := by
  unfold gQ
  rw [decide_eq_true_iff, u7m hn]
  exact ⟨fun e => e.2.2, fun e => ⟨h1, h2, e⟩⟩
theorem KG.nat2 {k : Int} (h : KG k) : ∃ n : Nat, n < 256 ∧ n % 2 = 0 ∧ n ≤ 254 ∧ k = (n : Int) := by
  unfold KG at h
  exact ⟨k.toNat, by omega, by omega, by omega, by omega⟩
theorem u0p {k l : Int} (hk : KG k) (hl : KG l) : (qG k l = 0 ∨ KG (qG k l)) ∧ ∀ q, 1 ≤ q → q ≤ 7 → (gQ (qG k l) q = true ↔ gQ k q = true ∧ gQ l q = true) := by
  obtain ⟨n, hn, en, ln, rfl⟩ := hk.nat2
  obtain ⟨m, hm, em, lm, rfl⟩ := hl.nat2
  have h1 : n &&& m ≤ n := Nat.and_le_left
  rw [k15 hn hm]
  constructor
  · have h2 : (n &&& m).testBit 0 = false := by
      rw [Nat.testBit_and, Nat.testBit_zero, decide_eq_false (by omega)]; rfl
    rw [Nat.testBit_zero, decide_eq_false_iff_not] at h2
    unfold KG; omega
  · intro q q1 q2
    rw [sI (by omega) q1 q2, sI hn q1 q2, sI hm q1 q2, Nat.testBit_and, Bool.and_eq_true]
theorem k9w {a b : List (List Int)} {m : List Int} : ∀ i, i ≤ a.length → (m ∈ uS a b i ↔ m ∈ b ∧ ∃ j, j < i ∧ List.getD a j [] = m)
  | 0, _ => ⟨fun h => (by cases h), fun ⟨_, j, hj, _⟩ => absurd hj (Nat.not_lt_zero j)⟩
  | i + 1, hi => by
    have ih := k9w (a := a) (b := b) (m := m) i (by omega)
    rw [uS]
    cases e : gX b (List.getD a i []) with
    | true =>
      rw [if_pos rfl, List.mem_append, ih, List.mem_singleton]
      constructor
      · rintro (⟨h1, j, hj, h2⟩ | h)
        · exact ⟨h1, j, by omega, h2⟩
        · exact ⟨by rw [h]; exact of_decide_eq_true e, i, by omega, h.symm⟩
      · rintro ⟨h1, j, hj, h2⟩
        by_cases e2 : j = i
        · subst e2; exact .inr h2.symm
        · exact .inl ⟨h1, j, by omega, h2⟩
    | false =>
      rw [if_neg (by decide), ih]
      constructor
      · rintro ⟨h1, j, hj, h2⟩; exact ⟨h1, j, by omega, h2⟩
      · rintro ⟨h1, j, hj, h2⟩
        by_cases e2 : j = i
        · subst e2; rw [h2] at e; exact absurd h1 (of_decide_eq_false e)
        · exact ⟨h1, j, by omega, h2⟩
theorem k9x {a b : List (List Int)} {m : List Int} : m ∈ uS a b a.length ↔ m ∈ a ∧ m ∈ b := by
  rw [k9w a.length (Nat.le_refl _)]
  constructor
  · rintro ⟨h1, j, hj, rfl⟩
    refine ⟨?_, h1⟩
    rw [List.getD_eq_getElem?_getD, List.getElem?_eq_getElem hj]; exact List.getElem_mem hj
  · rintro ⟨h1, h2⟩
    obtain ⟨j, hj, rfl⟩ := List.mem_iff_getElem.1 h1
    exact ⟨h2, j, hj, by rw [List.getD_eq_getElem?_getD, List.getElem?_eq_getElem hj]; rfl⟩
theorem k53 {ms : List (List Int)} (h : mM ms = true) : MsV ms := by
  obtain ⟨h1, h2, h3⟩ := of_decide_eq_true h
  have e : ∀ i (hi : i < ms.length), List.getD ms i [] = ms[i] := fun i hi => by rw [List.getD_eq_getElem?_getD, List.getElem?_eq_getElem hi]; rfl
  refine ⟨fun m hm => ?_, List.pairwise_iff_getElem.2 fun i j hi hj hij => ?_⟩
  · obtain ⟨i, hi, rfl⟩ := List.mem_iff_getElem.1 hm
    have h4 := h3 i hi
    unfold vmE at h4
    rw [Bool.and_eq_true, e i hi] at h4; exact h4.1
  · have h4 := h3 j hj
    unfold vmE at h4
    rw [Bool.and_eq_true, e j hj, Bool.not_eq_true'] at h4
    intro e2
    refine of_decide_eq_false h4.2 ?_
    rw [← e2]
    exact List.mem_iff_getElem.2 ⟨i, by rw [List.length_take]; omega, by rw [List.getElem_take]⟩
theorem k9v (a b : List (List Int)) : ∀ i, i ≤ a.length → (uS a b i).Sublist (List.take i a)
  | 0, _ => List.nil_sublist _
  | i + 1, hi => by
    have ih := k9v a b i (by omega)
    have e : List.take (i + 1) a = List.take i a ++ [List.getD a i []] := by
      rw [List.take_succ_eq_append_getElem (by omega), List.getD_eq_getElem?_getD, List.getElem?_eq_getElem (by omega)]; rfl
    rw [uS, e]; split
    · exact List.Sublist.append ih (List.Sublist.refl _)
    · exact ih.trans (List.sublist_append_left _ _)
theorem v2n {a b : List (List Int)} (h : mM a = true) (h1 : 1 ≤ (uS a b a.length).length) : mM (uS a b a.length) = true := by
  have hs := k9v a b a.length (Nat.le_refl _)
  rw [List.take_length] at hs
  have hm := k53 h
  have hl := (of_decide_eq_true h).2.1
  exact k51 ⟨fun m hm2 => hm.1 m (hs.mem hm2), hm.2.sublist hs⟩ h1 (Nat.le_trans hs.length_le hl)
theorem mK {l : List Int} {n : Nat} {lo hi : Int} (hl : l.length = n * 2) (h : eG l n lo hi = true) {x : Int} (hx : bA l x = true) : lo ≤ x ∧ x ≤ hi := by
  unfold eG at h
  rw [Bool.and_eq_true, decide_eq_true_iff] at h
  obtain ⟨h1, h2, h3, h4⟩ := h
  have hok := ((aD hl).1 h1).2
  obtain ⟨p, hp, h5⟩ := yZ.1 hx
  obtain ⟨j, hj, rfl⟩ := (u7 hl).1 hp
  have mono : ∀ a b, a ≤ b → b < n → List.getD l (a * 2) 0 ≤ List.getD l (b * 2) 0 ∧ List.getD l (a * 2 + 1) 0 ≤ List.getD l (b * 2 + 1) 0 := fun a b hab hb => by
    induction b with
    | zero => obtain rfl : a = 0 := by omega
              exact ⟨Int.le_refl _, Int.le_refl _⟩
    | succ b ih =>
      by_cases e : a = b + 1
      · subst e; exact ⟨Int.le_refl _, Int.le_refl _⟩
      · have i1 := ih (by omega) (by omega)
        have g := iF _ hok b _ _ (by rw [List.getElem?_eq_getElem (by rw [qZ hl]; omega), rS hl (by omega)]) (by rw [List.getElem?_eq_getElem (by rw [qZ hl]; omega), rS hl (by omega)])
        have v1 := cW hok _ ((u7 hl).2 ⟨b, by omega, rfl⟩)
        have v2 := cW hok _ ((u7 hl).2 ⟨b + 1, by omega, rfl⟩)
        unfold dD at v1 v2
        simp only at g v1 v2
        omega
  have m1 := mono 0 j (Nat.zero_le _) hj
  have m2 := mono j (n - 1) (by omega) (by omega)
  simp only [Nat.zero_mul, Nat.zero_add] at m1
  simp only at h5
  omega
theorem k50 {l : List Int} {n : Nat} {lo hi : Int} (hl : l.length = n * 2) (h1 : eH l n = true) (h2 : 1 ≤ n) (h : ∀ x, bA l x = true → lo ≤ x ∧ x ≤ hi) : eG l n lo hi = true := by
  have hok := ((aD hl).1 h1).2
  have e : ∀ j, j < n → dD (List.getD l (j * 2) 0, List.getD l (j * 2 + 1) 0) := fun j hj => cW hok _ ((u7 hl).2 ⟨j, hj, rfl⟩)
  have e0 := e 0 (by omega); have e1 := e (n - 1) (by omega)
  unfold dD at e0 e1
  simp only [Nat.zero_mul, Nat.zero_add] at e0 e1
  have a1 := h (List.getD l 0 0) (u2j hl (k := 0) (by omega) (by simp only [Nat.zero_mul, Nat.zero_add]; omega))
  have a2 := h (List.getD l ((n - 1) * 2 + 1) 0) (u2j hl (k := n - 1) (by omega) (by omega))
  exact k4z h1 ⟨h2, a1.1, a2.2⟩
theorem k0j {a b : List Int} {n m : Nat} (ha : a.length = n * 2) (hb : b.length = m * 2) : eH (uF (kB a n) (kB b m)) (qK (kB a n) (kB b m)) = true := (aD (uR _ _)).2 ⟨v9 _ _, u4z ha hb⟩
theorem k7p {a b : List Int} {n m : Nat} (ha : a.length = n * 2) (hb : b.length = m * 2) : (aP (qO (kB a n)) (qO (kB b m))).length ≤ n + m := by
  have := k0i _ (qO (kB a n)) (qO (kB b m)) (Nat.le_refl _) (bC ha) (bC hb)
  rw [qZ (qR ha), qZ (qR hb)] at this
  have h1 := (j8 (l := a) (n := n)).2
  have h2 := (j8 (l := b) (n := m)).2
  omega
theorem u50 {a b : List Int} {n m : Nat} (ha : a.length = n * 2) (hb : b.length = m * 2) (hq : n + m ≤ 64) {x : Int} : bA (uF (kB a n) (kB b m)) x = true ↔ bA (kB a n) x = true ∧ bA (kB b m) x = true := by
  have h1 := k7p ha hb
  rw [yZ, yZ, yZ]
  unfold uF; rw [gO, List.take_of_length_le (by omega)]
  exact nI _ _ x
def BxF (b : Bx) : Prop := b.rn ≤ 5 ∧ b.sn ≤ 5
def BsF (xs : List Bx) : Prop := ∀ b ∈ xs, BxF b
def zJ (a b : Bx) : Bx := kE (qG a.k b.k) (uF (kB a.r a.rn) (kB b.r b.rn)) (qK (kB a.r a.rn) (kB b.r b.rn)) (uS a.m b.m a.m.length) (uF (kB a.s a.sn) (kB b.s b.sn)) (qK (kB a.s a.sn) (kB b.s b.sn))
def okX (b : Bx) : Bool := fF b.k b.r b.rn b.m b.s b.sn
theorem v5m (q : Nat) : gQ 0 q = false := decide_eq_false fun ⟨_, _, h⟩ => by
  rw [Int.zero_ediv] at h
  exact absurd h (by decide)
theorem v2l {a : Bx} (h : zS a) (b : Bx) : zS (zJ a b) := by
  refine ⟨uR _ _, uR _ _, Nat.le_trans (v9 _ _) (by decide), Nat.le_trans (v9 _ _) (by decide), ?_, pP h.2.2.2.2.2 _ _⟩
  have h1 := cN a.m b.m a.m.length
  have h2 := h.2.2.2.2.1
  show List.length (uS _ _ _) ≤ _
  omega
theorem k9s {a b : Bx} (ha : BxV a) (hb : BxV b) (h : okX (zJ a b) = true) : BxV (zJ a b) := by
  refine ⟨v2l ha.1 b, ?_, h⟩
  exact (u0p ha.2.1 hb.2.1).1.elim (fun e => absurd e (vQ h).1.1) id
theorem k2r {a b : Bx} (ha : BxV a) (hb : BxV b) (f1 : a.rn + b.rn ≤ 64) (f2 : a.sn + b.sn ≤ 64) (c : Co) : okX (zJ a b) = true ∧ HC (zJ a b) c ↔ HC a c ∧ HC b c := by
  obtain ⟨⟨wr, ws, _⟩, ka, oa⟩ := id ha
  obtain ⟨⟨vr, vs, _⟩, kb, ob⟩ := id hb
  obtain ⟨⟨a1, a2, _⟩, a3, a4, _⟩ := BxV.sets ha
  obtain ⟨⟨b1, b2, _⟩, b3, b4, _⟩ := BxV.sets hb
  obtain ⟨pa1, pa2, pa3, pa4⟩ := vQ ha.2.2
  obtain ⟨d1, d2⟩ := u0p ka kb
  have hr : ∀ x, bA (zJ a b).r x = true ↔ bA a.r x = true ∧ bA b.r x = true := fun x => by
    have := u50 (x := x) wr vr (by omega)
    rw [a2, b2] at this; show bA (uF (kB a.r a.rn) (kB b.r b.rn)) x = true ↔ _
    rw [a2, b2]; exact this
  have hs : ∀ x, bA (zJ a b).s x = true ↔ bA a.s x = true ∧ bA b.s x = true := fun x => by
    have := u50 (x := x) ws vs (by omega)
    rw [a4, b4] at this; show bA (uF (kB a.s a.sn) (kB b.s b.sn)) x = true ↔ _
    rw [a4, b4]; exact this
  have hm : ∀ m, m ∈ (zJ a b).m ↔ m ∈ a.m ∧ m ∈ b.m := fun m => k9x
  have key : HC (zJ a b) c ↔ HC a c ∧ HC b c := by
    unfold HC
    rw [hr, hs, hm]
    constructor
    · rintro ⟨⟨q1, q2, q3⟩, ⟨r1, r2⟩, ⟨m1, m2⟩, s1, s2⟩
      have := (d2 c.k.toNat (by omega) (by omega)).1 q3
      exact ⟨⟨⟨q1, q2, this.1⟩, r1, m1, s1⟩, ⟨q1, q2, this.2⟩, r2, m2, s2⟩
    · rintro ⟨⟨⟨q1, q2, q3⟩, r1, m1, s1⟩, ⟨_, _, q4⟩, r2, m2, s2⟩
      exact ⟨⟨q1, q2, (d2 c.k.toNat (by omega) (by omega)).2 ⟨q3, q4⟩⟩, ⟨r1, r2⟩, ⟨m1, m2⟩, s1, s2⟩
  rw [key]
  refine ⟨fun h => h.2, fun h => ⟨?_, h⟩⟩
  have hc := key.2 h
  have hk : ¬ qG a.k b.k = 0 := fun e => by
    have h1 : gQ (qG a.k b.k) c.k.toNat = true := hc.1.2.2
    rw [e, v5m] at h1; cases h1
  have hg : KG (qG a.k b.k) := d1.elim (fun e => absurd e hk) id
  have ne : ∀ {l : List Int} {n : Nat} {x : Int}, l.length = n * 2 → bA l x = true → 1 ≤ n := fun {l n x} hl hx => by
    obtain ⟨p, hp, _⟩ := yZ.1 hx
    have := List.length_pos_of_mem hp
    rw [qZ hl] at this; omega
  have lr : (zJ a b).r.length = (zJ a b).rn * 2 := uR _ _
  have ls : (zJ a b).s.length = (zJ a b).sn * 2 := uR _ _
  refine k4g hg.ok.1 ?_ ?_ ?_
  · exact k50 lr (k0j wr vr) (ne lr hc.2.1) fun x hx => mK wr pa2 ((hr x).1 hx).1
  · exact v2n pa3 (List.length_pos_of_mem hc.2.2.1)
  · exact k50 ls (k0j ws vs) (ne ls hc.2.2.2) fun x hx => mK ws pa4 ((hs x).1 hx).1
theorem sF {a b : List Int} {n m : Nat} (ha : a.length = n * 2) (hb : b.length = m * 2) (h : n + m < 64) : lW a n b m = true := by
  refine u7r ?_
  have := k7p ha hb
  unfold qK; rw [List.length_take]; omega
/-! made boxes have few spans -/
theorem k70 {l : List Int} {n : Nat} (hl : l.length = n * 2) : vI l n ≤ n := by
  cases e : rgB l n with
  | false => rw [(sC e).2.2]; exact Nat.zero_le _
  | true =>
    have h1 := k7j hl (jO.1 e)
    by_cases h2 : lX l ≤ 64
    · rw [(sB e h2).2.2]; exact h1
    · rw [(k6z e (by omega)).2.2]; exact Nat.zero_le _
theorem u5z {l : List Int} (h : Byt l) : BxF (boX l) := by
  have b1 : Byt (bo1 l) := qH _ (qH _ h)
  have b2 : Byt (bo2 l) := vW b1 _
  have b3 : Byt (bo3 l) := aE b2
  have n1 := q8 (uA (bo2 l) 5) 5 (yU b2 5)
  have n2 := q8 (uA (bo3 l) 4) 4 (yU b3 4)
  obtain ⟨_, r2, r3⟩ := k1h v0k (by decide) (bo2 l) (by show kD _ 5 < 5; omega)
  obtain ⟨_, s2, s3⟩ := k1h v03 (by decide) (bo3 l) (by show kD _ 4 < 4; omega)
  have e1 := k70 r3.1
  have e2 := k70 s3.1
  exact ⟨Nat.le_trans e1 r2, Nat.le_trans e2 (Nat.le_trans s2 (by decide))⟩
theorem BsF.nil : BsF [] := fun b hb => by cases hb
theorem BsF.app {a b : List Bx} (h : BsF a) (h2 : BsF b) : BsF (a ++ b) := fun m hm => (List.mem_append.1 hm).elim (h m) (h2 m)
theorem BsF.one {b : Bx} (h : BxF b) : BsF [b] := fun m hm => by rw [List.mem_singleton.1 hm]; exact h
theorem BsF.box {xs : List Bx} (h : BsF xs) {i : Nat} (hi : i < xs.length) : BxF (kE (kQ xs i) (kY xs i) (kV xs i) (kT xs i) (kX xs i) (kU xs i)) := h _ (qM hi)
theorem u63 {l : List Int} (h : Byt l) : ∀ i, BsF (bbL l i)
  | 0 => BsF.nil
  | i + 1 => (u63 h i).app (BsF.one (u5z (fX h i)))
end Go.Proofs.YtbicifcgghmhaaaGreat
