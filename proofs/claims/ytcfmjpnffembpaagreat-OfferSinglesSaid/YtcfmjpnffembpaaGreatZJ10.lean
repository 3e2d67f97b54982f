/- Merged texts. -/
import Derived.Test.YtcfmjpnffembpaaGreatZW10
import Derived.Test.YtcfmjpnffembpaaGreatZL10R
namespace Go.Proofs.YtcfmjpnffembpaaGreat
open Go.ChangeShapes Go.WideShapes Go.ChangeAt Go.RowKit
set_option linter.unusedVariables false
set_option linter.unusedSimpArgs false
/-! chapter 10: boxes by what they hold -/
def kbC (n q : Nat) : Bool := decide (odV ((2 * (n : Int) + 2) / ((2 ^ (q + 1) : Nat) : Int)) = 1)
def anC : Bool := (List.range 127).all fun n => (List.range 127).all fun m => (decide (anW (2 * (n : Int) + 2) (2 * (m : Int) + 2) = 0)) == ((List.range 7).all fun q => !(kbC n q) || kbC m q)
set_option maxRecDepth 100000 in
theorem anC_t : anC = true := by kernel_rfl
theorem kb_ki {n q : Nat} (hq : q < 7) : kiB (2 * (n : Int) + 2) (q + 1) = kbC n q := by
  unfold kiB kbC
  by_cases h : odV ((2 * (n : Int) + 2) / ((2 ^ (q + 1) : Nat) : Int)) = 1
  · rw [decide_eq_true h, decide_eq_true ⟨by omega, by omega, h⟩]
  · rw [decide_eq_false h, decide_eq_false fun e => h e.2.2]
theorem KG.nat {k : Int} (h : KG k) : ∃ n : Nat, n < 127 ∧ k = 2 * (n : Int) + 2 := by
  unfold KG at h
  exact ⟨((k - 2) / 2).toNat, by omega, by omega⟩
theorem an_iff {k l : Int} (hk : KG k) (hl : KG l) : anW k l = 0 ↔ ∀ q, 1 ≤ q → q ≤ 7 → kiB k q = true → kiB l q = true := by
  obtain ⟨n, hn, rfl⟩ := hk.nat
  obtain ⟨m, hm, rfl⟩ := hl.nat
  have h := List.all_eq_true.1 (List.all_eq_true.1 anC_t n (List.mem_range.2 hn)) m (List.mem_range.2 hm)
  have h := (beq_iff_eq).1 h
  constructor
  · intro h1 q hq1 hq2 h2
    rw [decide_eq_true h1] at h
    obtain ⟨r, rfl⟩ : ∃ r, q = r + 1 := ⟨q - 1, by omega⟩
    have h3 := List.all_eq_true.1 h.symm r (List.mem_range.2 (by omega))
    rw [kb_ki (by omega)] at h2 ⊢
    rw [h2] at h3
    simpa using h3
  · intro h1
    have h2 : ((List.range 7).all fun q => !(kbC n q) || kbC m q) = true := List.all_eq_true.2 fun q hq => by
      have hq := List.mem_range.1 hq
      cases e : kbC n q with
      | false => rfl
      | true =>
        have h3 := h1 (q + 1) (by omega) (by omega) (by rw [kb_ki hq]; exact e)
        rw [kb_ki hq] at h3
        rw [h3]; rfl
    rw [h2] at h
    exact of_decide_eq_true h
theorem in_iff {a b : List Int} {n m : Nat} (ha : a.length = n * 2) (hb : b.length = m * 2) (va : vaB a n = true) (vb : vaB b m = true) : inB a b = true ↔ ∀ x, hsB a x = true → hsB b x = true := by
  constructor
  · intro h x hx
    obtain ⟨p, hp, h1⟩ := hs_iff.1 hx
    obtain ⟨q, hq, h2⟩ := List.any_eq_true.1 (List.all_eq_true.1 h p hp)
    have h2 := of_decide_eq_true h2
    exact hs_iff.2 ⟨q, hq, by omega, by omega⟩
  · intro h
    exact inP_of ((vaB_iff ha).1 va).2 ((vaB_iff hb).1 vb).2 fun x hx => hs_iff.1 (h x (hs_iff.2 hx))
theorem sg_iff {a b : List (List Int)} : sgB a b = false ↔ ∀ m ∈ a, m ∈ b := by
  unfold sgB
  rw [decide_eq_false_iff_not]
  constructor
  · intro h m hm
    by_cases e : m ∈ b
    · exact e
    · exact absurd ⟨m, hm, e⟩ h
  · rintro h ⟨m, hm, e⟩
    exact e (h m hm)
def NI (a b : Bx) : Prop := (∀ q, 1 ≤ q → q ≤ 7 → kiB a.k q = true → kiB b.k q = true) ∧ (∀ x, hsB a.r x = true → hsB b.r x = true) ∧ (∀ m ∈ a.m, m ∈ b.m) ∧ (∀ x, hsB a.s x = true → hsB b.s x = true)
theorem NI.refl (a : Bx) : NI a a := ⟨fun _ _ _ h => h, fun _ h => h, fun _ h => h, fun _ h => h⟩
theorem NI.trans {a b c : Bx} (h : NI a b) (h2 : NI b c) : NI a c := ⟨fun q h3 h4 h5 => h2.1 q h3 h4 (h.1 q h3 h4 h5), fun x h3 => h2.2.1 x (h.2.1 x h3), fun m h3 => h2.2.2.1 m (h.2.2.1 m h3), fun x h3 => h2.2.2.2 x (h.2.2.2 x h3)⟩
theorem BxV.sets {b : Bx} (h : BxV b) : (vaB b.r b.rn = true ∧ spS b.r b.rn = b.r ∧ 1 ≤ b.rn) ∧ (vaB b.s b.sn = true ∧ spS b.s b.sn = b.s ∧ 1 ≤ b.sn) := by
  obtain ⟨_, p2, _, p4⟩ := bx_parts h.2.2
  obtain ⟨r1, r2, _, r4⟩ := wi_sp p2
  obtain ⟨s1, s2, _, s4⟩ := wi_sp p4
  exact ⟨⟨r1, r2, r4⟩, s1, s2, s4⟩
theorem ni_iff {a b : Bx} (ha : BxV a) (hb : BxV b) : niB a.k a.r a.rn a.m a.s a.sn b.k b.r b.rn b.m b.s b.sn = true ↔ NI a b := by
  obtain ⟨⟨a1, a2, _⟩, a3, a4, _⟩ := ha.sets
  obtain ⟨⟨b1, b2, _⟩, b3, b4, _⟩ := hb.sets
  unfold niB NI
  rw [a2, a4, b2, b4, Bool.and_eq_true, Bool.and_eq_true, Bool.and_eq_true, decide_eq_true_iff, an_iff ha.2.1 hb.2.1, in_iff ha.1.1 hb.1.1 a1 b1, in_iff ha.1.2.1 hb.1.2.1 a3 b3, Bool.not_eq_true', sg_iff]
def HC (b : Bx) (c : Co) : Prop := (1 ≤ c.k ∧ c.k ≤ 7 ∧ kiB b.k c.k.toNat = true) ∧ hsB b.r c.r = true ∧ c.m ∈ b.m ∧ hsB b.s c.s = true
theorem hc_iff {b : Bx} (h : BxV b) {c : Co} : biB b.k b.r b.rn b.m b.s b.sn c.k c.r c.m c.s = true ↔ HC b c := by
  obtain ⟨⟨_, a2, _⟩, _, a4, _⟩ := h.sets
  unfold biB HC kjB hmB
  rw [a2, a4, Bool.and_eq_true, Bool.and_eq_true, Bool.and_eq_true, Bool.and_eq_true, decide_eq_true_iff, decide_eq_true_iff]
  exact ⟨fun ⟨⟨a, b⟩, d⟩ => ⟨⟨a.1, a.2, b⟩, d⟩, fun ⟨⟨a, b, d⟩, f⟩ => ⟨⟨⟨a, b⟩, d⟩, f⟩⟩
theorem HC.mono {a b : Bx} (h : NI a b) {c : Co} (hc : HC a c) : HC b c := ⟨⟨hc.1.1, hc.1.2.1, h.1 _ (by have := hc.1.1; omega) (by have := hc.1.2.1; omega) hc.1.2.2⟩, h.2.1 _ hc.2.1, h.2.2.1 _ hc.2.2.1, h.2.2.2 _ hc.2.2.2⟩
def LCo (xs : List Bx) (c : Co) : Prop := ∃ b ∈ xs, HC b c
theorem lc_iff {xs : List Bx} (h : BsV xs) (hn : xs.length ≤ 64) {k r : Int} {m : List Int} {z : Int} : haB (bxL xs) k r m z = true ↔ LCo xs ⟨k, r, m, z⟩ := by
  rw [h.eq hn, ha_iff]
  constructor
  · rintro ⟨b, hb, hc⟩; exact ⟨b, hb, (hc_iff (h b hb)).1 hc⟩
  · rintro ⟨b, hb, hc⟩; exact ⟨b, hb, (hc_iff (h b hb)).2 hc⟩
theorem LCo.app {xs ys : List Bx} {c : Co} : LCo (xs ++ ys) c ↔ LCo xs c ∨ LCo ys c := by
  constructor
  · rintro ⟨b, hb, h⟩; exact (List.mem_append.1 hb).imp (fun h1 => ⟨b, h1, h⟩) fun h1 => ⟨b, h1, h⟩
  · rintro (⟨b, hb, h⟩ | ⟨b, hb, h⟩)
    · exact ⟨b, List.mem_append_left _ hb, h⟩
    · exact ⟨b, List.mem_append_right _ hb, h⟩
/-! boxes that are reduced away -/
def GO (xs : List Bx) (i j : Nat) : Prop := j ≠ i ∧ NI (bxG xs i) (bxG xs j) ∧ (j < i ∨ ¬ NI (bxG xs j) (bxG xs i))
theorem go_iff {xs : List Bx} (h : BsV xs) {i j : Nat} (hi : i < xs.length) (hj : j < xs.length) : goE xs i j = true ↔ GO xs i j := by
  have e1 := ni_iff (h _ (bxG_mem hi)) (h _ (bxG_mem hj))
  have e2 := ni_iff (h _ (bxG_mem hj)) (h _ (bxG_mem hi))
  have e1 : niE xs i xs j = true ↔ NI (bxG xs i) (bxG xs j) := e1
  have e2 : niE xs j xs i = true ↔ NI (bxG xs j) (bxG xs i) := e2
  unfold goE GO
  rw [Bool.and_eq_true, Bool.and_eq_true, Bool.or_eq_true, decide_eq_true_iff, decide_eq_true_iff, e1, Bool.not_eq_true', ← Bool.not_eq_true, e2]
theorem GO.trans {xs : List Bx} {i j k : Nat} (h : GO xs i j) (h2 : GO xs j k) : GO xs i k := by
  obtain ⟨a1, a2, a3⟩ := h
  obtain ⟨b1, b2, b3⟩ := h2
  have key : NI (bxG xs k) (bxG xs i) → k < i := fun h => by
    have c1 : k < j := b3.elim id fun h9 => absurd (h.trans a2) h9
    have c2 : j < i := a3.elim id fun h9 => absurd (b2.trans h) h9
    omega
  refine ⟨fun e => ?_, a2.trans b2, ?_⟩
  · have := key (by rw [e]; exact NI.refl _); omega
  · by_cases e : NI (bxG xs k) (bxG xs i)
    · exact .inl (key e)
    · exact .inr e
theorem cnt_lt {p q : Nat → Bool} (h : ∀ x, p x = true → q x = true) : ∀ l : List Nat, (∃ x ∈ l, q x = true ∧ p x = false) → l.countP p < l.countP q
  | [], ⟨x, hx, _⟩ => by cases hx
  | a :: l, ⟨x, hx, h1, h2⟩ => by
    have hm : l.countP p ≤ l.countP q := List.countP_mono_left fun x _ => h x
    rw [List.countP_cons, List.countP_cons]
    rcases List.mem_cons.1 hx with rfl | hx
    · rw [h1, h2]; simp only [if_true]; rw [if_neg (by decide)]; omega
    · have := cnt_lt h l ⟨x, hx, h1, h2⟩
      cases e : p a with
      | true => rw [h a e]; omega
      | false => rw [if_neg (by decide)]; split <;> omega
theorem go_top {xs : List Bx} (h : BsV xs) : ∀ (N : Nat) (i : Nat), i < xs.length → (List.range xs.length).countP (fun j => goE xs i j) ≤ N → ∃ j, j < xs.length ∧ goB xs j = false ∧ NI (bxG xs i) (bxG xs j)
  | N, i, hi, hc => by
    cases e : goB xs i with
    | false => exact ⟨i, hi, e, NI.refl _⟩
    | true =>
      obtain ⟨j, hj, h1⟩ := of_decide_eq_true e
      have g1 := (go_iff h hi hj).1 h1
      have hlt : (List.range xs.length).countP (fun k => goE xs j k && decide (k < xs.length)) < (List.range xs.length).countP (fun k => goE xs i k && decide (k < xs.length)) := by
        refine cnt_lt (fun k hk => ?_) _ ⟨j, List.mem_range.2 hj, ?_, ?_⟩
        · rw [Bool.and_eq_true, decide_eq_true_iff] at hk ⊢
          exact ⟨(go_iff h hi hk.2).2 (g1.trans ((go_iff h hj hk.2).1 hk.1)), hk.2⟩
        · rw [h1, decide_eq_true hj]; rfl
        · rw [ge_s rfl]; rfl
      have ec : ∀ a, (List.range xs.length).countP (fun k => goE xs a k && decide (k < xs.length)) = (List.range xs.length).countP (fun k => goE xs a k) := fun a => List.countP_congr fun k hk => by
        rw [decide_eq_true (List.mem_range.1 hk), Bool.and_true]
      rw [ec, ec] at hlt
      cases N with
      | zero => omega
      | succ N =>
        obtain ⟨t, t1, t2, t3⟩ := go_top h N j hj zo
        exact ⟨t, t1, t2, g1.2.1.trans t3⟩
theorem rd_mem {xs : List Bx} {b : Bx} : ∀ i, b ∈ rdS xs i ↔ ∃ j, j < i ∧ goB xs j = false ∧ b = bxG xs j
  | 0 => ⟨fun h => (by cases h), fun ⟨j, hj, _⟩ => absurd hj (Nat.not_lt_zero j)⟩
  | i + 1 => by
    have ih := rd_mem (xs := xs) (b := b) i
    rw [rdS]
    cases e : goB xs i with
    | true =>
      rw [if_pos rfl, ih]
      constructor
      · rintro ⟨j, hj, h⟩; exact ⟨j, by omega, h⟩
      · rintro ⟨j, hj, h1, h2⟩
        refine ⟨j, ?_, h1, h2⟩
        by_cases e2 : j = i
        · rw [e2, e] at h1; cases h1
        · omega
    | false =>
      rw [if_neg (by decide), List.mem_append, ih, List.mem_singleton]
      constructor
      · rintro (⟨j, hj, h⟩ | h)
        · exact ⟨j, by omega, h⟩
        · exact ⟨i, by omega, e, h⟩
      · rintro ⟨j, hj, h1, h2⟩
        by_cases e2 : j = i
        · subst e2; exact .inr h2
        · exact .inl ⟨j, by omega, h1, h2⟩
theorem rdS_V {xs : List Bx} (h : BsV xs) : BsV (rdS xs xs.length) := fun b hb => by
  obtain ⟨j, hj, _, rfl⟩ := (rd_mem _).1 hb
  exact h _ (bxG_mem hj)
theorem rd_lc {xs : List Bx} (h : BsV xs) (c : Co) : LCo (rdS xs xs.length) c ↔ LCo xs c := by
  constructor
  · rintro ⟨b, hb, hc⟩
    obtain ⟨j, hj, _, rfl⟩ := (rd_mem _).1 hb
    exact ⟨_, bxG_mem hj, hc⟩
  · rintro ⟨b, hb, hc⟩
    obtain ⟨i, hi, rfl⟩ := List.mem_iff_getElem.1 hb
    have e : bxG xs i = xs[i] := by unfold bxG; rw [List.getD_eq_getElem?_getD, List.getElem?_eq_getElem hi]; rfl
    obtain ⟨j, hj, h1, h2⟩ := go_top h _ i hi (Nat.le_refl _)
    exact ⟨bxG xs j, (rd_mem _).2 ⟨j, hj, h1, rfl⟩, HC.mono (e ▸ h2) hc⟩
theorem rdR_V {xs : List Bx} (h : BsV xs) (hn : xs.length ≤ 64) : rdR xs = rdS xs xs.length ∧ rdE xs = 0 ∧ BsV (rdR xs) := by
  obtain ⟨h1, h2⟩ := rdR_y (h.vb hn)
  exact ⟨h1, h2, by rw [h1]; exact rdS_V h⟩
theorem rdR_lc {xs : List Bx} (h : BsV xs) (hn : xs.length ≤ 64) (c : Co) : LCo (rdR xs) c ↔ LCo xs c := by
  rw [(rdR_V h hn).1]; exact rd_lc h c
end Go.Proofs.YtcfmjpnffembpaaGreat
namespace Go.Proofs.YtcfmjpnffembpaaGreat
open Go.ChangeShapes Go.WideShapes Go.ChangeAt Go.RowKit
set_option linter.unusedVariables false
set_option linter.unusedSimpArgs false
/-! chapter 10: what is in two boxes, in two lists -/
theorem wr_nat {n : Nat} (h : n < 256) : IntKind.i64.wrap ((n : Nat) : Int) = (n : Int) := by
  unfold IntKind.wrap; simp [IntKind.bits, IntKind.signed]; omega
theorem bv_nat {n : Nat} (h : n < 256) : (BitVec.ofInt 64 (n : Int)).toNat = n := by
  rw [BitVec.ofInt_natCast, BitVec.toNat_ofNat]; exact Nat.mod_eq_of_lt (by omega)
theorem ad_nat {n m : Nat} (hn : n < 256) (hm : m < 256) : adV (n : Int) (m : Int) = ((n &&& m : Nat) : Int) := by
  have h1 : n &&& m ≤ n := Nat.and_le_left
  show IntKind.i64.wrap (((BitVec.ofInt 64 (n : Int) &&& BitVec.ofInt 64 (m : Int)).toNat : Nat) : Int) = _
  rw [BitVec.toNat_and, bv_nat hn, bv_nat hm]
  exact wr_nat (by omega)
theorem od_nat {n q : Nat} (hn : n < 256) : odV ((n : Int) / ((2 ^ q : Nat) : Int)) = 1 ↔ n.testBit q = true := by
  have h1 : n / 2 ^ q ≤ n := Nat.div_le_self _ _
  have h2 : odV ((n : Int) / ((2 ^ q : Nat) : Int)) = ((n / 2 ^ q % 2 : Nat) : Int) := by
    rw [← Int.natCast_ediv]
    show adV ((n / 2 ^ q : Nat) : Int) ((1 : Nat) : Int) = _
    rw [ad_nat (by omega) (by decide), Nat.and_one_is_mod]
  rw [h2, Nat.testBit_eq_decide_div_mod_eq, decide_eq_true_iff]
  omega
theorem ki_nat {n q : Nat} (hn : n < 256) (h1 : 1 ≤ q) (h2 : q ≤ 7) : kiB (n : Int) q = true ↔ n.testBit q = true := by
  unfold kiB
  rw [decide_eq_true_iff, od_nat hn]
  exact ⟨fun e => e.2.2, fun e => ⟨h1, h2, e⟩⟩
theorem KG.nat2 {k : Int} (h : KG k) : ∃ n : Nat, n < 256 ∧ n % 2 = 0 ∧ n ≤ 254 ∧ k = (n : Int) := by
  unfold KG at h
  exact ⟨k.toNat, by omega, by omega, by omega, by omega⟩
theorem ad_iff {k l : Int} (hk : KG k) (hl : KG l) : (adV k l = 0 ∨ KG (adV k l)) ∧ ∀ q, 1 ≤ q → q ≤ 7 → (kiB (adV k l) q = true ↔ kiB k q = true ∧ kiB l q = true) := by
  obtain ⟨n, hn, en, ln, rfl⟩ := hk.nat2
  obtain ⟨m, hm, em, lm, rfl⟩ := hl.nat2
  have h1 : n &&& m ≤ n := Nat.and_le_left
  rw [ad_nat hn hm]
  constructor
  · have h2 : (n &&& m).testBit 0 = false := by
      rw [Nat.testBit_and, Nat.testBit_zero, decide_eq_false (by omega)]; rfl
    rw [Nat.testBit_zero, decide_eq_false_iff_not] at h2
    unfold KG; omega
  · intro q q1 q2
    rw [ki_nat (by omega) q1 q2, ki_nat hn q1 q2, ki_nat hm q1 q2, Nat.testBit_and, Bool.and_eq_true]
theorem cm_mem {a b : List (List Int)} {m : List Int} : ∀ i, i ≤ a.length → (m ∈ cmS a b i ↔ m ∈ b ∧ ∃ j, j < i ∧ List.getD a j [] = m)
  | 0, _ => ⟨fun h => (by cases h), fun ⟨_, j, hj, _⟩ => absurd hj (Nat.not_lt_zero j)⟩
  | i + 1, hi => by
    have ih := cm_mem (a := a) (b := b) (m := m) i (by omega)
    rw [cmS]
    cases e : hmB b (List.getD a i []) with
    | true =>
      rw [if_pos rfl, List.mem_append, ih, List.mem_singleton]
      constructor
      · rintro (⟨h1, j, hj, h2⟩ | h)
        · exact ⟨h1, j, by omega, h2⟩
        · exact ⟨by rw [h]; exact of_decide_eq_true e, i, by omega, h.symm⟩
      · rintro ⟨h1, j, hj, h2⟩
        by_cases e2 : j = i
        · subst e2; exact .inr h2.symm
        · exact .inl ⟨h1, j, by omega, h2⟩
    | false =>
      rw [if_neg (by decide), ih]
      constructor
      · rintro ⟨h1, j, hj, h2⟩; exact ⟨h1, j, by omega, h2⟩
      · rintro ⟨h1, j, hj, h2⟩
        by_cases e2 : j = i
        · subst e2; rw [h2] at e; exact absurd h1 (of_decide_eq_false e)
        · exact ⟨h1, j, by omega, h2⟩
theorem cm_iff {a b : List (List Int)} {m : List Int} : m ∈ cmS a b a.length ↔ m ∈ a ∧ m ∈ b := by
  rw [cm_mem a.length (Nat.le_refl _)]
  constructor
  · rintro ⟨h1, j, hj, rfl⟩
    refine ⟨?_, h1⟩
    rw [List.getD_eq_getElem?_getD, List.getElem?_eq_getElem hj]; exact List.getElem_mem hj
  · rintro ⟨h1, h2⟩
    obtain ⟨j, hj, rfl⟩ := List.mem_iff_getElem.1 h1
    exact ⟨h2, j, hj, by rw [List.getD_eq_getElem?_getD, List.getElem?_eq_getElem hj]; rfl⟩
theorem vm_msV {ms : List (List Int)} (h : vmB ms = true) : MsV ms := by
  obtain ⟨h1, h2, h3⟩ := of_decide_eq_true h
  have e : ∀ i (hi : i < ms.length), List.getD ms i [] = ms[i] := fun i hi => by rw [List.getD_eq_getElem?_getD, List.getElem?_eq_getElem hi]; rfl
  refine ⟨fun m hm => ?_, List.pairwise_iff_getElem.2 fun i j hi hj hij => ?_⟩
  · obtain ⟨i, hi, rfl⟩ := List.mem_iff_getElem.1 hm
    have h4 := h3 i hi
    unfold vmE at h4
    rw [Bool.and_eq_true, e i hi] at h4; exact h4.1
  · have h4 := h3 j hj
    unfold vmE at h4
    rw [Bool.and_eq_true, e j hj, Bool.not_eq_true'] at h4
    intro e2
    refine of_decide_eq_false h4.2 ?_
    rw [← e2]
    exact List.mem_iff_getElem.2 ⟨i, by rw [List.length_take]; omega, by rw [List.getElem_take]⟩
theorem cm_sub (a b : List (List Int)) : ∀ i, i ≤ a.length → (cmS a b i).Sublist (List.take i a)
  | 0, _ => List.nil_sublist _
  | i + 1, hi => by
    have ih := cm_sub a b i (by omega)
    have e : List.take (i + 1) a = List.take i a ++ [List.getD a i []] := by
      rw [List.take_succ_eq_append_getElem (by omega), List.getD_eq_getElem?_getD, List.getElem?_eq_getElem (by omega)]; rfl
    rw [cmS, e]; split
    · exact List.Sublist.append ih (List.Sublist.refl _)
    · exact ih.trans (List.sublist_append_left _ _)
theorem cm_V {a b : List (List Int)} (h : vmB a = true) (h1 : 1 ≤ (cmS a b a.length).length) : vmB (cmS a b a.length) = true := by
  have hs := cm_sub a b a.length (Nat.le_refl _)
  rw [List.take_length] at hs
  have hm := vm_msV h
  have hl := (of_decide_eq_true h).2.1
  exact vm_of ⟨fun m hm2 => hm.1 m (hs.mem hm2), hm.2.sublist hs⟩ h1 (Nat.le_trans hs.length_le hl)
theorem wi_mem {l : List Int} {n : Nat} {lo hi : Int} (hl : l.length = n * 2) (h : wiB l n lo hi = true) {x : Int} (hx : hsB l x = true) : lo ≤ x ∧ x ≤ hi := by
  unfold wiB at h
  rw [Bool.and_eq_true, decide_eq_true_iff] at h
  obtain ⟨h1, h2, h3, h4⟩ := h
  have hok := ((vaB_iff hl).1 h1).2
  obtain ⟨p, hp, h5⟩ := hs_iff.1 hx
  obtain ⟨j, hj, rfl⟩ := (mem_prs hl).1 hp
  have mono : ∀ a b, a ≤ b → b < n → List.getD l (a * 2) 0 ≤ List.getD l (b * 2) 0 ∧ List.getD l (a * 2 + 1) 0 ≤ List.getD l (b * 2 + 1) 0 := fun a b hab hb => by
    induction b with
    | zero => obtain rfl : a = 0 := by omega
              exact ⟨Int.le_refl _, Int.le_refl _⟩
    | succ b ih =>
      by_cases e : a = b + 1
      · subst e; exact ⟨Int.le_refl _, Int.le_refl _⟩
      · have i1 := ih (by omega) (by omega)
        have g := okP_gap _ hok b _ _ (by rw [List.getElem?_eq_getElem (by rw [prs_len hl]; omega), prs_at hl (by omega)]) (by rw [List.getElem?_eq_getElem (by rw [prs_len hl]; omega), prs_at hl (by omega)])
        have v1 := okP_v hok _ ((mem_prs hl).2 ⟨b, by omega, rfl⟩)
        have v2 := okP_v hok _ ((mem_prs hl).2 ⟨b + 1, by omega, rfl⟩)
        unfold spV at v1 v2
        simp only at g v1 v2
        omega
  have m1 := mono 0 j (Nat.zero_le _) hj
  have m2 := mono j (n - 1) (by omega) (by omega)
  simp only [Nat.zero_mul, Nat.zero_add] at m1
  simp only at h5
  omega
theorem wi_of {l : List Int} {n : Nat} {lo hi : Int} (hl : l.length = n * 2) (h1 : vaB l n = true) (h2 : 1 ≤ n) (h : ∀ x, hsB l x = true → lo ≤ x ∧ x ≤ hi) : wiB l n lo hi = true := by
  have hok := ((vaB_iff hl).1 h1).2
  have e : ∀ j, j < n → spV (List.getD l (j * 2) 0, List.getD l (j * 2 + 1) 0) := fun j hj => okP_v hok _ ((mem_prs hl).2 ⟨j, hj, rfl⟩)
  have e0 := e 0 (by omega); have e1 := e (n - 1) (by omega)
  unfold spV at e0 e1
  simp only [Nat.zero_mul, Nat.zero_add] at e0 e1
  have a1 := h (List.getD l 0 0) (hs_t hl (k := 0) (by omega) (by simp only [Nat.zero_mul, Nat.zero_add]; omega))
  have a2 := h (List.getD l ((n - 1) * 2 + 1) 0) (hs_t hl (k := n - 1) (by omega) (by omega))
  exact wi_y h1 ⟨h2, a1.1, a2.2⟩
theorem is_va2 {a b : List Int} {n m : Nat} (ha : a.length = n * 2) (hb : b.length = m * 2) : vaB (isS (spS a n) (spS b m)) (isN (spS a n) (spS b m)) = true := (vaB_iff (is_len _ _)).2 ⟨is_le _ _, is_va ha hb⟩
theorem is_n2 {a b : List Int} {n m : Nat} (ha : a.length = n * 2) (hb : b.length = m * 2) : (itP (prs (spS a n)) (prs (spS b m))).length ≤ n + m := by
  have := it_len _ (prs (spS a n)) (prs (spS b m)) (Nat.le_refl _) (sp_ok ha) (sp_ok hb)
  rw [prs_len (sp_len ha), prs_len (sp_len hb)] at this
  have h1 := (sp_le (l := a) (n := n)).2
  have h2 := (sp_le (l := b) (n := m)).2
  omega
theorem is_hs {a b : List Int} {n m : Nat} (ha : a.length = n * 2) (hb : b.length = m * 2) (hq : n + m ≤ 64) {x : Int} : hsB (isS (spS a n) (spS b m)) x = true ↔ hsB (spS a n) x = true ∧ hsB (spS b m) x = true := by
  have h1 := is_n2 ha hb
  rw [hs_iff, hs_iff, hs_iff]
  unfold isS; rw [prs_fl, List.take_of_length_le (by omega)]
  exact it_me _ _ x
def BxF (b : Bx) : Prop := b.rn ≤ 5 ∧ b.sn ≤ 5
def BsF (xs : List Bx) : Prop := ∀ b ∈ xs, BxF b
def crX (a b : Bx) : Bx := mkBx (adV a.k b.k) (isS (spS a.r a.rn) (spS b.r b.rn)) (isN (spS a.r a.rn) (spS b.r b.rn)) (cmS a.m b.m a.m.length) (isS (spS a.s a.sn) (spS b.s b.sn)) (isN (spS a.s a.sn) (spS b.s b.sn))
def okX (b : Bx) : Bool := bxB b.k b.r b.rn b.m b.s b.sn
theorem ki_0 (q : Nat) : kiB 0 q = false := decide_eq_false fun ⟨_, _, h⟩ => by
  rw [Int.zero_ediv] at h
  exact absurd h (by decide)
theorem crX_W {a : Bx} (h : BxW a) (b : Bx) : BxW (crX a b) := by
  refine ⟨is_len _ _, is_len _ _, Nat.le_trans (is_le _ _) (by decide), Nat.le_trans (is_le _ _) (by decide), ?_, cmS_W h.2.2.2.2.2 _ _⟩
  have h1 := cmS_le a.m b.m a.m.length
  have h2 := h.2.2.2.2.1
  show List.length (cmS _ _ _) ≤ _
  omega
theorem crX_V {a b : Bx} (ha : BxV a) (hb : BxV b) (h : okX (crX a b) = true) : BxV (crX a b) := by
  refine ⟨crX_W ha.1 b, ?_, h⟩
  exact (ad_iff ha.2.1 hb.2.1).1.elim (fun e => absurd e (bx_parts h).1.1) id
theorem crX_hc {a b : Bx} (ha : BxV a) (hb : BxV b) (fa : BxF a) (fb : BxF b) (c : Co) : okX (crX a b) = true ∧ HC (crX a b) c ↔ HC a c ∧ HC b c := by
  obtain ⟨⟨wr, ws, _⟩, ka, oa⟩ := id ha
  obtain ⟨⟨vr, vs, _⟩, kb, ob⟩ := id hb
  obtain ⟨⟨a1, a2, _⟩, a3, a4, _⟩ := BxV.sets ha
  obtain ⟨⟨b1, b2, _⟩, b3, b4, _⟩ := BxV.sets hb
  obtain ⟨pa1, pa2, pa3, pa4⟩ := bx_parts ha.2.2
  obtain ⟨f1, f2⟩ := fa
  obtain ⟨f3, f4⟩ := fb
  obtain ⟨d1, d2⟩ := ad_iff ka kb
  have hr : ∀ x, hsB (crX a b).r x = true ↔ hsB a.r x = true ∧ hsB b.r x = true := fun x => by
    have := is_hs (x := x) wr vr (by omega)
    rw [a2, b2] at this; show hsB (isS (spS a.r a.rn) (spS b.r b.rn)) x = true ↔ _
    rw [a2, b2]; exact this
  have hs : ∀ x, hsB (crX a b).s x = true ↔ hsB a.s x = true ∧ hsB b.s x = true := fun x => by
    have := is_hs (x := x) ws vs (by omega)
    rw [a4, b4] at this; show hsB (isS (spS a.s a.sn) (spS b.s b.sn)) x = true ↔ _
    rw [a4, b4]; exact this
  have hm : ∀ m, m ∈ (crX a b).m ↔ m ∈ a.m ∧ m ∈ b.m := fun m => cm_iff
  have key : HC (crX a b) c ↔ HC a c ∧ HC b c := by
    unfold HC
    rw [hr, hs, hm]
    constructor
    · rintro ⟨⟨q1, q2, q3⟩, ⟨r1, r2⟩, ⟨m1, m2⟩, s1, s2⟩
      have := (d2 c.k.toNat (by omega) (by omega)).1 q3
      exact ⟨⟨⟨q1, q2, this.1⟩, r1, m1, s1⟩, ⟨q1, q2, this.2⟩, r2, m2, s2⟩
    · rintro ⟨⟨⟨q1, q2, q3⟩, r1, m1, s1⟩, ⟨_, _, q4⟩, r2, m2, s2⟩
      exact ⟨⟨q1, q2, (d2 c.k.toNat (by omega) (by omega)).2 ⟨q3, q4⟩⟩, ⟨r1, r2⟩, ⟨m1, m2⟩, s1, s2⟩
  rw [key]
  refine ⟨fun h => h.2, fun h => ⟨?_, h⟩⟩
  have hc := key.2 h
  have hk : ¬ adV a.k b.k = 0 := fun e => by
    have h1 : kiB (adV a.k b.k) c.k.toNat = true := hc.1.2.2
    rw [e, ki_0] at h1; cases h1
  have hg : KG (adV a.k b.k) := d1.elim (fun e => absurd e hk) id
  have ne : ∀ {l : List Int} {n : Nat} {x : Int}, l.length = n * 2 → hsB l x = true → 1 ≤ n := fun {l n x} hl hx => by
    obtain ⟨p, hp, _⟩ := hs_iff.1 hx
    have := List.length_pos_of_mem hp
    rw [prs_len hl] at this; omega
  have lr : (crX a b).r.length = (crX a b).rn * 2 := is_len _ _
  have ls : (crX a b).s.length = (crX a b).sn * 2 := is_len _ _
  refine bx_t hg.ok.1 ?_ ?_ ?_
  · exact wi_of lr (is_va2 wr vr) (ne lr hc.2.1) fun x hx => wi_mem wr pa2 ((hr x).1 hx).1
  · exact cm_V pa3 (List.length_pos_of_mem hc.2.2.1)
  · exact wi_of ls (is_va2 ws vs) (ne ls hc.2.2.2) fun x hx => wi_mem ws pa4 ((hs x).1 hx).1
theorem me_few {a b : List Int} {n m : Nat} (ha : a.length = n * 2) (hb : b.length = m * 2) (h : n + m < 64) : meB a n b m = true := by
  refine me_l ?_
  have := is_n2 ha hb
  unfold isN; rw [List.length_take]; omega
/-! two lists -/
theorem cj_mem {xs ys : List Bx} {i : Nat} {o : List Bx} {b : Bx} : ∀ j, b ∈ cjL xs ys i o j ↔ b ∈ o ∨ ∃ k, k < j ∧ crV xs ys i k = true ∧ b = crB xs ys i k
  | 0 => ⟨.inl, fun h => h.elim id fun ⟨k, hk, _⟩ => absurd hk (Nat.not_lt_zero k)⟩
  | j + 1 => by
    have ih := cj_mem (xs := xs) (ys := ys) (i := i) (o := o) (b := b) j
    rw [cjL]
    cases e : crV xs ys i j with
    | true =>
      rw [if_pos rfl, List.mem_append, ih, List.mem_singleton]
      constructor
      · rintro ((h | ⟨k, hk, h⟩) | h)
        · exact .inl h
        · exact .inr ⟨k, by omega, h⟩
        · exact .inr ⟨j, by omega, e, h⟩
      · rintro (h | ⟨k, hk, h1, h2⟩)
        · exact .inl (.inl h)
        · by_cases e2 : k = j
          · subst e2; exact .inr h2
          · exact .inl (.inr ⟨k, by omega, h1, h2⟩)
    | false =>
      rw [if_neg (by decide), ih]
      constructor
      · rintro (h | ⟨k, hk, h⟩)
        · exact .inl h
        · exact .inr ⟨k, by omega, h⟩
      · rintro (h | ⟨k, hk, h1, h2⟩)
        · exact .inl h
        · by_cases e2 : k = j
          · subst e2; rw [e] at h1; cases h1
          · exact .inr ⟨k, by omega, h1, h2⟩
theorem ci_mem {xs ys : List Bx} {b : Bx} : ∀ i, b ∈ ciL xs ys i ↔ ∃ a k, a < i ∧ k < ys.length ∧ crV xs ys a k = true ∧ b = crB xs ys a k
  | 0 => ⟨fun h => (by cases h), fun ⟨a, _, h, _⟩ => absurd h (Nat.not_lt_zero a)⟩
  | i + 1 => by
    have ih := ci_mem (xs := xs) (ys := ys) (b := b) i
    rw [ciL, cj_mem, ih]
    constructor
    · rintro (⟨a, k, h1, h⟩ | ⟨k, h⟩)
      · exact ⟨a, k, by omega, h⟩
      · exact ⟨i, k, by omega, h⟩
    · rintro ⟨a, k, h1, h⟩
      by_cases e : a = i
      · subst e; exact .inr ⟨k, h⟩
      · exact .inl ⟨a, k, by omega, h⟩
theorem cj_len (xs ys : List Bx) (i : Nat) (o : List Bx) : ∀ j, (cjL xs ys i o j).length ≤ o.length + j
  | 0 => Nat.le_refl _
  | j + 1 => by
    have := cj_len xs ys i o j
    rw [cjL]; split
    · rw [List.length_append, List.length_singleton]; omega
    · omega
theorem ci_len (xs ys : List Bx) : ∀ i, (ciL xs ys i).length ≤ i * ys.length
  | 0 => Nat.zero_le _
  | i + 1 => by
    have := ci_len xs ys i
    have h2 := cj_len xs ys i (ciL xs ys i) ys.length
    rw [ciL, Nat.succ_mul]; omega
theorem li_t {xs ys : List Bx} (hs : ∀ i j, i < xs.length → j < ys.length → crS xs ys i j = true) (hn : xs.length * ys.length < 64) : ∀ i, i ≤ xs.length → liB xs ys i = true
  | 0, _ => rfl
  | i + 1, hi => by
    have ih := li_t hs hn i (by omega)
    have hj : ∀ j, j ≤ ys.length → ljB xs ys i (liB xs ys i) j = true := fun j => by
      induction j with
      | zero => intro _; exact ih
      | succ j ihj =>
        intro hj
        show (ljB xs ys i (liB xs ys i) j && (!(crV xs ys i j) || (crS xs ys i j && decide (List.length (cjL xs ys i (ciL xs ys i) j) ≠ 64)))) = true
        have h1 := cj_len xs ys i (ciL xs ys i) j
        have h2 := ci_len xs ys i
        have h3 : (i + 1) * ys.length ≤ xs.length * ys.length := Nat.mul_le_mul_right _ hi
        rw [Nat.succ_mul] at h3
        rw [ihj (by omega), hs i j (by omega) (by omega), decide_eq_true (by omega)]
        simp
    exact hj _ (Nat.le_refl _)
theorem ix_ok {xs ys : List Bx} (h : BsV xs) (h2 : BsV ys) (f : BsF xs) (f2 : BsF ys) (hn : xs.length * ys.length < 64) (hx : xs.length ≤ 64) (hy : ys.length ≤ 64) : ixR xs ys = rdR (ciL xs ys xs.length) ∧ ixE xs ys = 0 ∧ BsV (ixR xs ys) ∧ ∀ c, LCo (ixR xs ys) c ↔ LCo xs c ∧ LCo ys c := by
  have hl := ci_len xs ys xs.length
  have hcr : ∀ i j, crV xs ys i j = okX (crX (bxG xs i) (bxG ys j)) := fun _ _ => rfl
  have hV : BsV (ciL xs ys xs.length) := fun b hb => by
    obtain ⟨i, j, hi, hj, h3, rfl⟩ := (ci_mem _).1 hb
    exact crX_V (h _ (bxG_mem hi)) (h2 _ (bxG_mem hj)) h3
  obtain ⟨r1, r2, r3⟩ := rdR_V hV zo
  have hli := li_t (xs := xs) (ys := ys) (fun i j hi hj => by
    have a1 := h _ (bxG_mem hi); have a2 := f _ (bxG_mem hi)
    have b1 := h2 _ (bxG_mem hj); have b2 := f2 _ (bxG_mem hj)
    unfold BxF at a2 b2
    exact xs_t (me_few a1.1.1 b1.1.1 (show (bxG xs i).rn + (bxG ys j).rn < 64 by omega)) (me_few a1.1.2.1 b1.1.2.1 (show (bxG xs i).sn + (bxG ys j).sn < 64 by omega))) hn xs.length (Nat.le_refl _)
  obtain ⟨e1, e2⟩ := ix_y (h.vb hx) (h2.vb hy) (show CI xs ys xs.length (ciL xs ys xs.length) from ⟨rfl, hli⟩) rfl
  refine ⟨e1, by rw [e2]; exact r2, by rw [e1]; exact r3, fun c => ?_⟩
  rw [e1, rdR_lc hV (by omega)]
  constructor
  · rintro ⟨b, hb, hc⟩
    obtain ⟨i, j, hi, hj, h3, rfl⟩ := (ci_mem _).1 hb
    have := (crX_hc (h _ (bxG_mem hi)) (h2 _ (bxG_mem hj)) (f _ (bxG_mem hi)) (f2 _ (bxG_mem hj)) c).1 ⟨h3, hc⟩
    exact ⟨⟨_, bxG_mem hi, this.1⟩, _, bxG_mem hj, this.2⟩
  · rintro ⟨⟨a, ha, hc⟩, b, hb, hd⟩
    obtain ⟨i, hi, rfl⟩ := List.mem_iff_getElem.1 ha
    obtain ⟨j, hj, rfl⟩ := List.mem_iff_getElem.1 hb
    have ei : bxG xs i = xs[i] := by unfold bxG; rw [List.getD_eq_getElem?_getD, List.getElem?_eq_getElem hi]; rfl
    have ej : bxG ys j = ys[j] := by unfold bxG; rw [List.getD_eq_getElem?_getD, List.getElem?_eq_getElem hj]; rfl
    rw [← ei] at hc; rw [← ej] at hd
    have := (crX_hc (h _ (bxG_mem hi)) (h2 _ (bxG_mem hj)) (f _ (bxG_mem hi)) (f2 _ (bxG_mem hj)) c).2 ⟨hc, hd⟩
    exact ⟨_, (ci_mem _).2 ⟨i, j, hi, hj, this.1, rfl⟩, this.2⟩
/-! made boxes have few spans -/
theorem mkN_le {l : List Int} {n : Nat} (hl : l.length = n * 2) : mkN l n ≤ n := by
  cases e : rgB l n with
  | false => rw [(mk_bad e).2.2]; exact Nat.zero_le _
  | true =>
    have h1 := jd_le hl (rg_iff.1 e)
    by_cases h2 : jdN l ≤ 64
    · rw [(mk_good e h2).2.2]; exact h1
    · rw [(mk_big e (by omega)).2.2]; exact Nat.zero_le _
theorem boX_F {l : List Int} (h : Byt l) : BxF (boX l) := by
  have b1 : Byt (bo1 l) := nextL_byt _ (nextL_byt _ h)
  have b2 : Byt (bo2 l) := knD_byt b1 _
  have b3 : Byt (bo3 l) := seD_byt b2
  have n1 := nextV_in (smD (bo2 l) 5) 5 (smD_byt b2 5)
  have n2 := nextV_in (smD (bo3 l) 4) 4 (smD_byt b3 4)
  obtain ⟨_, r2, r3⟩ := se_in rt_b (by decide) (bo2 l) (by show nextN _ 5 < 5; omega)
  obtain ⟨_, s2, s3⟩ := se_in sz_b (by decide) (bo3 l) (by show nextN _ 4 < 4; omega)
  have e1 := mkN_le r3.1
  have e2 := mkN_le s3.1
  exact ⟨Nat.le_trans e1 r2, Nat.le_trans e2 (Nat.le_trans s2 (by decide))⟩
theorem BsF.nil : BsF [] := fun b hb => by cases hb
theorem BsF.app {a b : List Bx} (h : BsF a) (h2 : BsF b) : BsF (a ++ b) := fun m hm => (List.mem_append.1 hm).elim (h m) (h2 m)
theorem BsF.one {b : Bx} (h : BxF b) : BsF [b] := fun m hm => by rw [List.mem_singleton.1 hm]; exact h
theorem BsF.box {xs : List Bx} (h : BsF xs) {i : Nat} (hi : i < xs.length) : BxF (mkBx (qbK xs i) (qbR xs i) (qbN xs i) (qbM xs i) (qbS xs i) (qbT xs i)) := h _ (bxG_mem hi)
theorem bbL_F {l : List Int} (h : Byt l) : ∀ i, BsF (bbL l i)
  | 0 => BsF.nil
  | i + 1 => (bbL_F h i).app (BsF.one (boX_F (bbD_byt h i)))
end Go.Proofs.YtcfmjpnffembpaaGreat
