/- Boxes by what they hold. No statement is proved here. -/
import Derived.Test.YtcfmjpnffembpaaGreatZW10
import Derived.Test.YtcfmjpnffembpaaGreatZL10R
namespace Go.Proofs.YtcfmjpnffembpaaGreat
open Go.ChangeShapes Go.WideShapes Go.ChangeAt Go.RowKit
set_option linter.unusedVariables false
set_option linter.unusedSimpArgs false
/-! chapter 10: boxes by what they hold -/
def kbC (n q : Nat) : Bool := decide (odV ((2 * (n : Int) + 2) / ((2 ^ (q + 1) : Nat) : Int)) = 1)
def anC : Bool := (List.range 127).all fun n => (List.range 127).all fun m => (decide (anW (2 * (n : Int) + 2) (2 * (m : Int) + 2) = 0)) == ((List.range 7).all fun q => !(kbC n q) || kbC m q)
set_option maxRecDepth 100000 in
theorem anC_t : anC = true := by kernel_rfl
theorem kb_ki {n q : Nat} (hq : q < 7) : kiB (2 * (n : Int) + 2) (q + 1) = kbC n q := by
  unfold kiB kbC
  by_cases h : odV ((2 * (n : Int) + 2) / ((2 ^ (q + 1) : Nat) : Int)) = 1
  · rw [decide_eq_true h, decide_eq_true ⟨by omega, by omega, h⟩]
  · rw [decide_eq_false h, decide_eq_false fun e => h e.2.2]
theorem KG.nat {k : Int} (h : KG k) : ∃ n : Nat, n < 127 ∧ k = 2 * (n : Int) + 2 := by
  unfold KG at h
  exact ⟨((k - 2) / 2).toNat, by omega, by omega⟩
theorem an_iff {k l : Int} (hk : KG k) (hl : KG l) : anW k l = 0 ↔ ∀ q, 1 ≤ q → q ≤ 7 → kiB k q = true → kiB l q = true := by
  obtain ⟨n, hn, rfl⟩ := hk.nat
  obtain ⟨m, hm, rfl⟩ := hl.nat
  have h := List.all_eq_true.1 (List.all_eq_true.1 anC_t n (List.mem_range.2 hn)) m (List.mem_range.2 hm)
  have h := (beq_iff_eq).1 h
  constructor
  · intro h1 q hq1 hq2 h2
    rw [decide_eq_true h1] at h
    obtain ⟨r, rfl⟩ : ∃ r, q = r + 1 := ⟨q - 1, by omega⟩
    have h3 := List.all_eq_true.1 h.symm r (List.mem_range.2 (by omega))
    rw [kb_ki (by omega)] at h2 ⊢
    rw [h2] at h3
    simpa using h3
  · intro h1
    have h2 : ((List.range 7).all fun q => !(kbC n q) || kbC m q) = true := List.all_eq_true.2 fun q hq => by
      have hq := List.mem_range.1 hq
      cases e : kbC n q with
      | false => rfl
      | true =>
        have h3 := h1 (q + 1) (by omega) (by omega) (by rw [kb_ki hq]; exact e)
        rw [kb_ki hq] at h3
        rw [h3]; rfl
    rw [h2] at h
    exact of_decide_eq_true h
theorem in_iff {a b : List Int} {n m : Nat} (ha : a.length = n * 2) (hb : b.length = m * 2) (va : vaB a n = true) (vb : vaB b m = true) : inB a b = true ↔ ∀ x, hsB a x = true → hsB b x = true := by
  constructor
  · intro h x hx
    obtain ⟨p, hp, h1⟩ := hs_iff.1 hx
    obtain ⟨q, hq, h2⟩ := List.any_eq_true.1 (List.all_eq_true.1 h p hp)
    have h2 := of_decide_eq_true h2
    exact hs_iff.2 ⟨q, hq, by omega, by omega⟩
  · intro h
    exact inP_of ((vaB_iff ha).1 va).2 ((vaB_iff hb).1 vb).2 fun x hx => hs_iff.1 (h x (hs_iff.2 hx))
theorem sg_iff {a b : List (List Int)} : sgB a b = false ↔ ∀ m ∈ a, m ∈ b := by
  unfold sgB
  rw [decide_eq_false_iff_not]
  constructor
  · intro h m hm
    by_cases e : m ∈ b
    · exact e
    · exact absurd ⟨m, hm, e⟩ h
  · rintro h ⟨m, hm, e⟩
    exact e (h m hm)
def NI (a b : Bx) : Prop := (∀ q, 1 ≤ q → q ≤ 7 → kiB a.k q = true → kiB b.k q = true) ∧ (∀ x, hsB a.r x = true → hsB b.r x = true) ∧ (∀ m ∈ a.m, m ∈ b.m) ∧ (∀ x, hsB a.s x = true → hsB b.s x = true)
theorem NI.refl (a : Bx) : NI a a := ⟨fun _ _ _ h => h, fun _ h => h, fun _ h => h, fun _ h => h⟩
theorem NI.trans {a b c : Bx} (h : NI a b) (h2 : NI b c) : NI a c := ⟨fun q h3 h4 h5 => h2.1 q h3 h4 (h.1 q h3 h4 h5), fun x h3 => h2.2.1 x (h.2.1 x h3), fun m h3 => h2.2.2.1 m (h.2.2.1 m h3), fun x h3 => h2.2.2.2 x (h.2.2.2 x h3)⟩
theorem BxV.sets {b : Bx} (h : BxV b) : (vaB b.r b.rn = true ∧ spS b.r b.rn = b.r ∧ 1 ≤ b.rn) ∧ (vaB b.s b.sn = true ∧ spS b.s b.sn = b.s ∧ 1 ≤ b.sn) := by
  obtain ⟨_, p2, _, p4⟩ := bx_parts h.2.2
  obtain ⟨r1, r2, _, r4⟩ := wi_sp p2
  obtain ⟨s1, s2, _, s4⟩ := wi_sp p4
  exact ⟨⟨r1, r2, r4⟩, s1, s2, s4⟩
theorem ni_iff {a b : Bx} (ha : BxV a) (hb : BxV b) : niB a.k a.r a.rn a.m a.s a.sn b.k b.r b.rn b.m b.s b.sn = true ↔ NI a b := by
  obtain ⟨⟨a1, a2, _⟩, a3, a4, _⟩ := ha.sets
  obtain ⟨⟨b1, b2, _⟩, b3, b4, _⟩ := hb.sets
  unfold niB NI
  rw [a2, a4, b2, b4, Bool.and_eq_true, Bool.and_eq_true, Bool.and_eq_true, decide_eq_true_iff, an_iff ha.2.1 hb.2.1, in_iff ha.1.1 hb.1.1 a1 b1, in_iff ha.1.2.1 hb.1.2.1 a3 b3, Bool.not_eq_true', sg_iff]
def HC (b : Bx) (c : Co) : Prop := (1 ≤ c.k ∧ c.k ≤ 7 ∧ kiB b.k c.k.toNat = true) ∧ hsB b.r c.r = true ∧ c.m ∈ b.m ∧ hsB b.s c.s = true
theorem hc_iff {b : Bx} (h : BxV b) {c : Co} : biB b.k b.r b.rn b.m b.s b.sn c.k c.r c.m c.s = true ↔ HC b c := by
  obtain ⟨⟨_, a2, _⟩, _, a4, _⟩ := h.sets
  unfold biB HC kjB hmB
  rw [a2, a4, Bool.and_eq_true, Bool.and_eq_true, Bool.and_eq_true, Bool.and_eq_true, decide_eq_true_iff, decide_eq_true_iff]
  exact ⟨fun ⟨⟨a, b⟩, d⟩ => ⟨⟨a.1, a.2, b⟩, d⟩, fun ⟨⟨a, b, d⟩, f⟩ => ⟨⟨⟨a, b⟩, d⟩, f⟩⟩
theorem HC.mono {a b : Bx} (h : NI a b) {c : Co} (hc : HC a c) : HC b c := ⟨⟨hc.1.1, hc.1.2.1, h.1 _ (by have := hc.1.1; omega) (by have := hc.1.2.1; omega) hc.1.2.2⟩, h.2.1 _ hc.2.1, h.2.2.1 _ hc.2.2.1, h.2.2.2 _ hc.2.2.2⟩
def LCo (xs : List Bx) (c : Co) : Prop := ∃ b ∈ xs, HC b c
theorem lc_iff {xs : List Bx} (h : BsV xs) (hn : xs.length ≤ 64) {k r : Int} {m : List Int} {z : Int} : haB (bxL xs) k r m z = true ↔ LCo xs ⟨k, r, m, z⟩ := by
  rw [h.eq hn, ha_iff]
  constructor
  · rintro ⟨b, hb, hc⟩; exact ⟨b, hb, (hc_iff (h b hb)).1 hc⟩
  · rintro ⟨b, hb, hc⟩; exact ⟨b, hb, (hc_iff (h b hb)).2 hc⟩
theorem LCo.app {xs ys : List Bx} {c : Co} : LCo (xs ++ ys) c ↔ LCo xs c ∨ LCo ys c := by
  constructor
  · rintro ⟨b, hb, h⟩; exact (List.mem_append.1 hb).imp (fun h1 => ⟨b, h1, h⟩) fun h1 => ⟨b, h1, h⟩
  · rintro (⟨b, hb, h⟩ | ⟨b, hb, h⟩)
    · exact ⟨b, List.mem_append_left _ hb, h⟩
    · exact ⟨b, List.mem_append_right _ hb, h⟩
theorem ha_v {xs : List Bx} (h : BsV xs) (hn : xs.length ≤ 64) {k r : Int} {m : List Int} {z : Int} {v : Bool} (hv : LCo xs ⟨k, r, m, z⟩ ↔ v = true) : haB (bxL xs) k r m z = v := by
  cases v with
  | true => exact (lc_iff h hn).2 (hv.2 rfl)
  | false =>
    cases e : haB (bxL xs) k r m z with
    | false => rfl
    | true => exact absurd (hv.1 ((lc_iff h hn).1 e)) (by decide)
/-! boxes that are reduced away -/
def GO (xs : List Bx) (i j : Nat) : Prop := j ≠ i ∧ NI (bxG xs i) (bxG xs j) ∧ (j < i ∨ ¬ NI (bxG xs j) (bxG xs i))
theorem go_iff {xs : List Bx} (h : BsV xs) {i j : Nat} (hi : i < xs.length) (hj : j < xs.length) : goE xs i j = true ↔ GO xs i j := by
  have e1 := ni_iff (h _ (bxG_mem hi)) (h _ (bxG_mem hj))
  have e2 := ni_iff (h _ (bxG_mem hj)) (h _ (bxG_mem hi))
  have e1 : niE xs i xs j = true ↔ NI (bxG xs i) (bxG xs j) := e1
  have e2 : niE xs j xs i = true ↔ NI (bxG xs j) (bxG xs i) := e2
  unfold goE GO
  rw [Bool.and_eq_true, Bool.and_eq_true, Bool.or_eq_true, decide_eq_true_iff, decide_eq_true_iff, e1, Bool.not_eq_true', ← Bool.not_eq_true, e2]
theorem GO.trans {xs : List Bx} {i j k : Nat} (h : GO xs i j) (h2 : GO xs j k) : GO xs i k := by
  obtain ⟨a1, a2, a3⟩ := h
  obtain ⟨b1, b2, b3⟩ := h2
  have key : NI (bxG xs k) (bxG xs i) → k < i := fun h => by
    have c1 : k < j := b3.elim id fun h9 => absurd (h.trans a2) h9
    have c2 : j < i := a3.elim id fun h9 => absurd (b2.trans h) h9
    omega
  refine ⟨fun e => ?_, a2.trans b2, ?_⟩
  · have := key (by rw [e]; exact NI.refl _); omega
  · by_cases e : NI (bxG xs k) (bxG xs i)
    · exact .inl (key e)
    · exact .inr e
theorem rd_mem {xs : List Bx} {b : Bx} : ∀ i, b ∈ rdS xs i ↔ ∃ j, j < i ∧ goB xs j = false ∧ b = bxG xs j
  | 0 => ⟨fun h => (by cases h), fun ⟨j, hj, _⟩ => absurd hj (Nat.not_lt_zero j)⟩
  | i + 1 => by
    have ih := rd_mem (xs := xs) (b := b) i
    rw [rdS]
    cases e : goB xs i with
    | true =>
      rw [if_pos rfl, ih]
      constructor
      · rintro ⟨j, hj, h⟩; exact ⟨j, by omega, h⟩
      · rintro ⟨j, hj, h1, h2⟩
        refine ⟨j, ?_, h1, h2⟩
        by_cases e2 : j = i
        · rw [e2, e] at h1; cases h1
        · omega
    | false =>
      rw [if_neg (by decide), List.mem_append, ih, List.mem_singleton]
      constructor
      · rintro (⟨j, hj, h⟩ | h)
        · exact ⟨j, by omega, h⟩
        · exact ⟨i, by omega, e, h⟩
      · rintro ⟨j, hj, h1, h2⟩
        by_cases e2 : j = i
        · subst e2; exact .inr h2
        · exact .inl ⟨j, by omega, h1, h2⟩
theorem rdS_V {xs : List Bx} (h : BsV xs) : BsV (rdS xs xs.length) := fun b hb => by
  obtain ⟨j, hj, _, rfl⟩ := (rd_mem _).1 hb
  exact h _ (bxG_mem hj)
theorem rdR_V {xs : List Bx} (h : BsV xs) (hn : xs.length ≤ 64) : rdR xs = rdS xs xs.length ∧ rdE xs = 0 ∧ BsV (rdR xs) := by
  obtain ⟨h1, h2⟩ := rdR_y (h.vb hn)
  exact ⟨h1, h2, by rw [h1]; exact rdS_V h⟩
/-! a box that lies in another one changes nothing -/
theorem bxG_l {xs : List Bx} {p : Bx} {j : Nat} (h : j < xs.length) : bxG (xs ++ [p]) j = bxG xs j := by
  unfold bxG; rw [List.getD_eq_getElem?_getD, List.getD_eq_getElem?_getD, List.getElem?_append_left h]
theorem bxG_r {xs : List Bx} {p : Bx} : bxG (xs ++ [p]) xs.length = p := by
  unfold bxG; rw [List.getD_eq_getElem?_getD, List.getElem?_append_right (Nat.le_refl _), Nat.sub_self]; rfl
theorem rd_more {xs : List Bx} {p : Bx} (h : BsV xs) (hp : BxV p) {i : Nat} (hi : i < xs.length) (hn : NI p (bxG xs i)) : rdS (xs ++ [p]) (xs.length + 1) = rdS xs xs.length := by
  have hv : BsV (xs ++ [p]) := h.app (BsV.one hp)
  have hl : (xs ++ [p]).length = xs.length + 1 := by rw [List.length_append]; rfl
  have hlast : goB (xs ++ [p]) xs.length = true := by
    refine go_t (j := i) (by omega) ((go_iff hv (by omega) (by omega)).2 ⟨by omega, ?_, .inl hi⟩)
    rw [bxG_l hi, bxG_r]; exact hn
  have hsame : ∀ j, j < xs.length → goB (xs ++ [p]) j = goB xs j := fun j hj => by
    have gx : ∀ k, k < xs.length → (GO (xs ++ [p]) j k ↔ GO xs j k) := fun k hk => by
      unfold GO; rw [bxG_l hj, bxG_l hk]
    cases e : goB xs j with
    | true =>
      obtain ⟨k, hk, h1⟩ := of_decide_eq_true e
      exact go_t (j := k) (by omega) ((go_iff hv (by omega) (by omega)).2 ((gx k hk).2 ((go_iff h hj hk).1 h1)))
    | false =>
      have hno : ∀ k, k < xs.length → ¬ GO xs j k := fun k hk h1 => by
        rw [go_t hk ((go_iff h hj hk).2 h1)] at e; cases e
      refine go_f fun k hk => ?_
      cases e2 : goE (xs ++ [p]) j k with
      | false => rfl
      | true =>
        exfalso
        have g := (go_iff hv (by omega) (by omega)).1 e2
        by_cases hk2 : k < xs.length
        · exact hno k hk2 ((gx k hk2).1 g)
        · obtain rfl : k = xs.length := by omega
          obtain ⟨_, g2, g3⟩ := g
          rw [bxG_l hj, bxG_r] at g2 g3
          have g3 : ¬ NI p (bxG xs j) := g3.elim (fun h9 => by omega) id
          by_cases e3 : j = i
          · subst e3; exact g3 hn
          · exact hno i hi ⟨fun e4 => e3 e4.symm, g2.trans hn, .inr fun h9 => g3 (hn.trans h9)⟩
  have hpre : ∀ k, k ≤ xs.length → rdS (xs ++ [p]) k = rdS xs k := fun k => by
    induction k with
    | zero => intro _; rfl
    | succ k ih =>
      intro hk
      rw [rdS, rdS, ih (by omega), hsame k (by omega)]
      have e : bxP (xs ++ [p]) k = bxP xs k := by
        unfold bxP qbK qbR qbN qbM qbS qbT; rw [bxG_l (by omega)]
      rw [e]
  rw [rdS, hlast, if_pos rfl]
  exact hpre _ (Nat.le_refl _)
def ptB (xs : List Bx) (i : Nat) : Bx := mkBx (qbK xs i) (qbR xs i) (qbN xs i) (List.take 1 (qbM xs i)) (qbS xs i) (qbT xs i)
theorem vm_1 {ms : List (List Int)} (h : vmB ms = true) : vmB (List.take 1 ms) = true := by
  obtain ⟨h1, h2, h3⟩ := of_decide_eq_true h
  have hl : (List.take 1 ms).length = 1 := by rw [List.length_take]; omega
  refine vm_t (by omega) (by omega) fun i hi => ?_
  obtain rfl : i = 0 := by omega
  have h4 := h3 0 (by omega)
  unfold vmE at h4 ⊢
  rw [Bool.and_eq_true] at h4
  have e : List.getD (List.take 1 ms) 0 [] = List.getD ms 0 [] := by
    rw [List.getD_eq_getElem?_getD, List.getD_eq_getElem?_getD, List.getElem?_take]; rfl
  rw [e, h4.1]; rfl
theorem ptB_V {xs : List Bx} (h : BsV xs) {i : Nat} (hi : i < xs.length) : BxV (ptB xs i) ∧ NI (ptB xs i) (bxG xs i) := by
  have hb := h _ (bxG_mem hi)
  obtain ⟨⟨w1, w2, w3, w4, w5, w6⟩, hk, ho⟩ := hb
  obtain ⟨p1, p2, p3, p4⟩ := bx_parts ho
  refine ⟨⟨⟨w1, w2, w3, w4, ?_, w6.take 1⟩, hk, bx_t p1 p2 (vm_1 p3) p4⟩, fun _ _ _ h => h, fun _ h => h, fun m hm => List.mem_of_mem_take hm, fun _ h => h⟩
  show (List.take 1 (qbM xs i)).length ≤ _
  rw [List.length_take]; omega
theorem pt_rd {xs : List Bx} (h : BsV xs) (hn : xs.length ≤ 60) {i : Nat} (hi : i < xs.length) : rdR (xs ++ [ptB xs i]) = rdR xs ∧ rdE (xs ++ [ptB xs i]) = 0 ∧ rdE xs = 0 := by
  obtain ⟨hp, hq⟩ := ptB_V h hi
  have hl : (xs ++ [ptB xs i]).length = xs.length + 1 := by rw [List.length_append]; rfl
  obtain ⟨a1, a2, _⟩ := rdR_V (h.app (BsV.one hp)) zo
  obtain ⟨b1, b2, _⟩ := rdR_V h zo
  refine ⟨?_, a2, b2⟩
  rw [a1, b1, hl]; exact rd_more h hp hi hq
theorem pt_lc {xs : List Bx} (h : BsV xs) {i : Nat} (hi : i < xs.length) {c : Co} : LCo (xs ++ [ptB xs i]) c ↔ LCo xs c := by
  rw [LCo.app]
  constructor
  · rintro (h1 | ⟨b, hb, hc⟩)
    · exact h1
    · rw [List.mem_singleton.1 hb] at hc
      exact ⟨_, bxG_mem hi, HC.mono (ptB_V h hi).2 hc⟩
  · exact .inl
end Go.Proofs.YtcfmjpnffembpaaGreat
